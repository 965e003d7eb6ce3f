import PyProof.Rows.All
import Wide.All
import OpenK.AllK
import Wide.FinOn
import PyProof.EqAt
import PyProof.EqKinds
import PyProof.TupleCall
import KE.BitLaws
import Open.SpecLaws
import KE.OsHead
import KE.OsGo
import PySem.Challenge.RW_wheelarea_s01_answers
section
set_option Elab.async false
set_option linter.all false
set_option maxRecDepth 100000
/-! THE HAND LAYER, for ints, bools, texts, own classes, lists, tuples, dicts, comprehensions, walks over dicts, enumerate, zip, reversed, texts, calls, loops. Paste it whole ahead of your own text; what your proof does not reach may be deleted. -/
namespace L2
open PySem PySem.Spec PyProof.Rows

/-- a key: an int or a str -/
abbrev Key := Sum Int Str
def keyIs : Key → Value → Bool
  | .inl k, v => Value.isInt k v
  | .inr x, v => Value.isStrOf x v
def keyH (w : World) : Key → Int
  | .inl k => hashInt k
  | .inr x => hashStr w x
theorem keyIs_shape : ∀ {k : Key} {v : Value}, keyIs k v = true → (∃ i t, k = Sum.inl i ∧ v = Value.int i t) ∨ (∃ x t, k = Sum.inr x ∧ v = Value.str x t)
  | .inl i, v, h => by
    obtain ⟨t, e⟩ := Value.isInt_shape (k := i) (v := v) h
    exact .inl ⟨i, t, rfl, e⟩
  | .inr x, v, h => by
    obtain ⟨t, e⟩ := Value.isStrOf_shape (x := x) (v := v) h
    exact .inr ⟨x, t, rfl, e⟩
theorem keyIs_int (i : Int) (t : Tok) : keyIs (.inl i) (.int i t) = true := by simp [keyIs, Value.isInt]
theorem keyIs_str (x : Str) (t : Tok) : keyIs (.inr x) (.str x t) = true := by simp [keyIs, Value.isStrOf]
theorem key_ll (a b : Int) : decide ((Sum.inl a : Key) = Sum.inl b) = (a == b) := by
  by_cases e : a = b
  · subst e; simp
  · have h : ¬ (Sum.inl a : Key) = Sum.inl b := fun q => e (Sum.inl.inj q)
    rw [decide_eq_false h]
    exact (beq_eq_false_iff_ne.mpr e).symm
theorem key_rr (a b : Str) : decide ((Sum.inr a : Key) = Sum.inr b) = decide (a = b) := by
  by_cases e : a = b
  · subst e; simp
  · have h : ¬ (Sum.inr a : Key) = Sum.inr b := fun q => e (Sum.inr.inj q)
    rw [decide_eq_false h, decide_eq_false e]
theorem key_lr (a : Int) (b : Str) : decide ((Sum.inl a : Key) = Sum.inr b) = false := decide_eq_false (fun q => nomatch q)
theorem key_rl (a : Str) (b : Int) : decide ((Sum.inr a : Key) = Sum.inl b) = false := decide_eq_false (fun q => nomatch q)

def mixKind (prog : Program) (w : World) : PySem.KeyKind prog w Key where
  is := keyIs
  hash := keyH w
  inj := fun v a b ha hb => by
    rcases keyIs_shape ha with ⟨i, t, rfl, rfl⟩ | ⟨x, t, rfl, rfl⟩
    · rcases keyIs_shape hb with ⟨j, u, rfl, e⟩ | ⟨y, u, rfl, e⟩
      · injection e with e1 _; rw [e1]
      · exact nomatch e
    · rcases keyIs_shape hb with ⟨j, u, rfl, e⟩ | ⟨y, u, rfl, e⟩
      · exact nomatch e
      · injection e with e1 _; rw [e1]
  byValue := fun k v h => by
    rcases keyIs_shape h with ⟨i, t, rfl, rfl⟩ | ⟨x, t, rfl, rfl⟩ <;> rfl
  pyHash := fun hv h => by
    rcases keyIs_shape hv with ⟨i, t, rfl, rfl⟩ | ⟨x, t, rfl, rfl⟩
    · exact wpAny_pyHash_int h
    · exact wpAny_pyHash_str h
  eqBool := fun hu hv h => by
    rcases keyIs_shape hu with ⟨i, t, rfl, rfl⟩ | ⟨x, t, rfl, rfl⟩
    · rcases keyIs_shape hv with ⟨j, u, rfl, rfl⟩ | ⟨y, u, rfl, rfl⟩
      · rw [key_ll] at h; exact wpAny_eqBool_int h
      · rw [key_lr] at h; exact SeqAt.EqAt.int_str i t y u _ _ _ _ h
    · rcases keyIs_shape hv with ⟨j, u, rfl, rfl⟩ | ⟨y, u, rfl, rfl⟩
      · rw [key_rl] at h; exact SeqAt.EqAt.str_int x t j u _ _ _ _ h
      · rw [key_rr] at h; exact wpAny_eqBool_str h
  «strs» := fun k x t v h => by
    rcases keyIs_shape h with ⟨i, u, rfl, e⟩ | ⟨y, u, rfl, e⟩
    · exact nomatch e
    · injection e with e1 _
      subst e1
      cases v <;> rfl

theorem mixKind_int (prog : Program) (w : World) (i : Int) (t : Tok) : (mixKind prog w).is (.inl i) (.int i t) = true := keyIs_int i t
theorem mixKind_str (prog : Program) (w : World) (x : Str) (t : Tok) : (mixKind prog w).is (.inr x) (.str x t) = true := keyIs_str x t
end L2

namespace L2
open PySem PySem.Spec PyProof.Rows

/-- a value, without the heap -/
inductive V where
  | non | bl (b : Bool) | int (i : Int) | str (x : Str) | byt (b : Array UInt8) | flt (b : UInt64) | ref (a : Addr) | ty (n : String)
  deriving DecidableEq

def RelV : V → Value → Prop
  | .non, u => u = Value.none
  | .bl b, u => u = Value.bool b
  | .int i, u => ∃ t, u = Value.int i t
  | .str x, u => ∃ t, u = Value.str x t
  | .byt b, u => ∃ t, u = Value.bytes b t
  | .flt b, u => ∃ t, u = Value.float b t
  | .ref a, u => u = Value.ref a
  | .ty n, u => u = Value.type n

abbrev Vals : List V → List Value → Prop := Paired RelV
theorem Vals.length {xs : List V} {us : List Value} (r : Vals xs us) : xs.length = us.length := Paired.length r
theorem Vals.get : ∀ {xs : List V} {us : List Value} {i : Nat} {x : V}, Vals xs us → xs[i]? = some x → ∃ u, us[i]? = some u ∧ RelV x u
  | _, _, _, _, .nil, e => by simp at e
  | _, _, 0, _, .cons r _, e => by simp at e; subst e; exact ⟨_, rfl, r⟩
  | _, _, i + 1, x, .cons _ t, e => by
    obtain ⟨u, h1, h2⟩ := Vals.get (i := i) (x := x) t (by simpa using e)
    exact ⟨u, by simpa using h1, h2⟩
theorem Vals.append : ∀ {xs ys : List V} {us ws : List Value}, Vals xs us → Vals ys ws → Vals (xs ++ ys) (us ++ ws)
  | _, _, _, _, .nil, s => s
  | _, _, _, _, .cons r t, s => .cons r (Vals.append t s)
theorem Vals.take : ∀ {xs : List V} {us : List Value} (n : Nat), Vals xs us → Vals (xs.take n) (us.take n)
  | _, _, 0, _ => .nil
  | _, _, _ + 1, .nil => .nil
  | _, _, n + 1, .cons r t => .cons r (Vals.take n t)
theorem Vals.drop : ∀ {xs : List V} {us : List Value} (n : Nat), Vals xs us → Vals (xs.drop n) (us.drop n)
  | _, _, 0, r => r
  | _, _, _ + 1, .nil => .nil
  | _, _, n + 1, .cons _ t => Vals.drop n t

def RelO : Option V → Option Value → Prop
  | some v, some u => RelV v u
  | none, none => True
  | _, _ => False
def KV {κ : Type} : List (κ × V) → List (κ × Value) → Prop := Paired fun (p : κ × V) (q : κ × Value) => p.1 = q.1 ∧ RelV p.2 q.2

/-- a key of a dict (00_mix): an int or a text -/
def kV : Key → V
  | .inl i => .int i
  | .inr x => .str x

/-- what stands at a tracked address -/
inductive HO where
  /-- a list -/
  | lst (xs : List V)
  /-- a tuple (never changes) -/
  | tup (xs : List V)
  /-- a dict whose keys are ints and texts; one whose keys are tuples of ints and texts (the empty one is both) -/
  | dK (kvs : List (Key × V)) | dT (kvs : List (List Key × V))
  /-- a set of ints: its members, its size -/
  | set (S : Int → Bool) (n : Nat)
  /-- an instance of the class at C, its dict at dx, its attributes -/
  | ins (C dx : Addr) (fs : List (Str × V))
  /-- the dict of the instance at x -/
  | own (x : Addr)
  /-- the dict of an exception -/
  | xd (fs : List (Str × V))
  /-- a bound method, f of x -/
  | met (f x : Addr)
  /-- a range object lo, lo + 1, .. below hi -/
  | rng (lo hi : Int)
  /-- a thing that is known to the object (the script; a dict while a loop walks it): read, never written while it is so -/
  | frz (o : Obj) (u : HO)
  /-- a code object's table -/
  | tbl (ps : Array Value)
  /-- any other thing, by what is true of its one object (a def of one's own: SetO a S n := HO.ext fun h => ..) -/
  | ext (φ : Heap → Prop)

abbrev Hp := Addr → Option HO
def upd (H : Hp) (a : Addr) (o : HO) : Hp := fun b => if b = a then some o else H b
theorem upd_same {H : Hp} {a : Addr} {o : HO} : upd H a o a = some o := by unfold upd; rw [if_pos rfl]
theorem upd_ne {H : Hp} {a b : Addr} {o : HO} (h : b ≠ a) : upd H a o b = H b := by unfold upd; rw [if_neg h]
theorem upd_upd {H : Hp} {a : Addr} {o u : HO} : upd (upd H a o) a u = upd H a u := by
  funext b; unfold upd; split <;> rfl
/-- two objects of different content stand apart -/
theorem ne_of {H : Hp} {a b : Addr} {o u : HO} (h : H a = some o) (h' : H b = some u) (d : o ≠ u) : a ≠ b := by
  intro e; subst e; rw [h] at h'; exact d (Option.some.inj h')
theorem ne_of_none {H : Hp} {a b : Addr} {o : HO} (h : H a = some o) (h' : H b = none) : a ≠ b := by
  intro e; subst e; rw [h] at h'; cases h'

section
variable (P : Program) (w : World)
def ObjOk (H : Hp) (h : Heap) (a : Addr) : HO → Prop
  | .lst xs => xs.length ≤ sizeLine ∧ ∃ (its : List Value) (n : Nat), Vals xs its ∧ h.get? a = some { cls := .type "list", data := .seq its.toArray n }
  | .tup xs => xs.length ≤ sizeLine ∧ ∃ its : List Value, Vals xs its ∧ IsTup h a its.toArray
  | .dK kvs => kvs.length ≤ sizeLine ∧ (a == sysModules) = false ∧ ∃ vs, KV kvs vs ∧ h.DictOf (mixKind P w) a vs
  | .dT kvs => kvs.length ≤ sizeLine ∧ (a == sysModules) = false ∧ ∃ xs : List (List Key × Addr × Value),
      Paired (fun (p : List Key × V) (q : List Key × Addr × Value) => p.1 = q.1 ∧ H q.2.1 = some (.tup (p.1.map kV)) ∧ RelV p.2 q.2.2) kvs xs ∧
      ∃ o es ep, h.get? a = some o ∧ o.ExactDict ∧ o.data = .dict es ep ∧ es.toList = xs.map (entryOfKey (tupleKind (mixKind P w))) ∧ (xs.map (·.1)).Nodup
  | .set S n => h.SetOf (intKind P w) a S n
  | .ins C dx fs => H dx = some (.own a) ∧ fs.length ≤ 1000 ∧ dx ≠ a ∧ h.get? a = some (PySem.W.instObj C dx) ∧
      ∃ mA, h.Ns1 dx mA ∧ (∀ f, RelO (fs.lookup f) (mA f)) ∧ PySem.Within mA (fs.map (·.1))
  | .own _ => ∃ o, h.get? a = some o
  | .xd fs => ∃ mA, h.Ns1 a mA ∧ ∀ f, RelO (fs.lookup f) (mA f)
  | .rng lo hi => ∃ t u v, h.get? a = some { cls := .type "range", data := .fields #[.int lo t, .int hi u, .int 1 v] }
  | .frz o u => h.get? a = some o ∧ ObjOk H h a u
  | .tbl ps => h.get? a = some { cls := .none, data := .fields ps }
  | .met f x => h.get? a = some (PySem.W.methodObj (.ref f) (.ref x))
  | .ext φ => φ h ∧ (∃ o, h.get? a = some o) ∧ ∀ h1 h2 : Heap, φ h1 → (∀ o, h1.get? a = some o → h2.get? a = some o) → φ h2
/-- the abstract heap is held -/
def HOk (H : Hp) (h : Heap) : Prop := ∀ a o, H a = some o → ObjOk P w H h a o
end

section
variable {P : Program} {w : World} {H H' : Hp} {h h' : Heap} {a : Addr} {o : HO}
theorem ObjOk.lt (x : ObjOk P w H h a o) : a < h.objs.size := by
  cases o with
  | lst xs => obtain ⟨_, _, _, _, e⟩ := x; exact Heap.lt_size e
  | tup xs => obtain ⟨_, _, _, p⟩ := x; exact p.lt
  | dK kvs => obtain ⟨_, _, _, _, o, _, _, e, _⟩ := x; exact Heap.lt_size e
  | dT kvs => obtain ⟨_, _, _, _, o, _, _, e, _⟩ := x; exact Heap.lt_size e
  | set S n => obtain ⟨o, _, _, _, e, _⟩ := x; exact Heap.lt_size e
  | ins C dx fs => obtain ⟨_, _, _, e, _⟩ := x; exact Heap.lt_size e
  | own y => obtain ⟨_, e⟩ := x; exact Heap.lt_size e
  | xd fs => obtain ⟨_, ⟨_, _, _, e, _⟩, _⟩ := x; exact Heap.lt_size e
  | rng lo hi => obtain ⟨_, _, _, e⟩ := x; exact Heap.lt_size e
  | frz ob u => obtain ⟨e, _⟩ := x; exact Heap.lt_size e
  | tbl ps => exact Heap.lt_size (show h.get? a = some _ from x)
  | met f y => exact Heap.lt_size (show h.get? a = some _ from x)
  | ext φ => obtain ⟨_, ⟨_, e⟩, _⟩ := x; exact Heap.lt_size e
theorem Paired.mapP {α β : Type} {F G : α → β → Prop} : ∀ {l₁ : List α} {l₂ : List β}, Paired F l₁ l₂ → (∀ a b, F a b → G a b) → Paired G l₁ l₂
  | _, _, .nil, _ => .nil
  | _, _, .cons r t, f => .cons (f _ _ r) (Paired.mapP t f)
/-- what an object's description leans on: its own object, its own dict, the tuples -/
theorem ObjOk.stay (x : ObjOk P w H h a o) (k : ∀ b u, (b = a ∨ H b = some (.own a)) → h.get? b = some u → h'.get? b = some u)
    (ho : ∀ b, H b = some (.own a) → H' b = some (.own a)) (ht : ∀ b xs, H b = some (.tup xs) → H' b = some (.tup xs)) : ObjOk P w H' h' a o := by
  induction o with
  | lst xs => obtain ⟨z, its, n, r, e⟩ := x; exact ⟨z, its, n, r, k _ _ (.inl rfl) e⟩
  | tup xs => obtain ⟨z, its, r, ob, e, c⟩ := x; exact ⟨z, its, r, ob, k _ _ (.inl rfl) e, c⟩
  | dK kvs => obtain ⟨z, y, vs, r, ob, es, ep, e, c⟩ := x; exact ⟨z, y, vs, r, ob, es, ep, k _ _ (.inl rfl) e, c⟩
  | dT kvs =>
    obtain ⟨z, y, xs, r, ob, es, ep, e, c⟩ := x
    exact ⟨z, y, xs, Paired.mapP r fun p q z => ⟨z.1, ht _ _ z.2.1, z.2.2⟩, ob, es, ep, k _ _ (.inl rfl) e, c⟩
  | set S n => obtain ⟨ob, es, ep, t, e, c⟩ := x; exact ⟨ob, es, ep, t, k _ _ (.inl rfl) e, c⟩
  | ins C dx fs =>
    obtain ⟨d, z, ne, e, mA, ⟨od, es, ep, e2, c⟩, r⟩ := x
    exact ⟨ho _ d, z, ne, k _ _ (.inl rfl) e, mA, ⟨od, es, ep, k _ _ (.inr d) e2, c⟩, r⟩
  | own y => obtain ⟨ob, e⟩ := x; exact ⟨ob, k _ _ (.inl rfl) e⟩
  | xd fs => obtain ⟨mA, ⟨od, es, ep, e, c⟩, r⟩ := x; exact ⟨mA, ⟨od, es, ep, k _ _ (.inl rfl) e, c⟩, r⟩
  | rng lo hi => obtain ⟨t, u, v, e⟩ := x; exact ⟨t, u, v, k _ _ (.inl rfl) e⟩
  | frz ob u ih => obtain ⟨e, q⟩ := x; exact ⟨k _ _ (.inl rfl) e, ih q⟩
  | tbl ps =>
    have e : h.get? a = some { cls := .none, data := .fields ps } := x
    show h'.get? a = some { cls := .none, data := .fields ps }
    exact k a _ (.inl rfl) e
  | met f y =>
    have e : h.get? a = some (PySem.W.methodObj (.ref f) (.ref y)) := x
    show h'.get? a = some (PySem.W.methodObj (.ref f) (.ref y))
    exact k a _ (.inl rfl) e
  | ext φ => obtain ⟨p, ⟨o, e⟩, st⟩ := x; exact ⟨st _ _ p fun o q => k _ _ (.inl rfl) q, ⟨o, k _ _ (.inl rfl) e⟩, st⟩
theorem HOk.lt (x : HOk P w H h) (e : H a = some o) : a < h.objs.size := (x a o e).lt
theorem HOk.fresh (x : HOk P w H h) (e : h.objs.size ≤ a) : H a = none := by
  cases q : H a with
  | none => rfl
  | some u => exact absurd (Nat.lt_of_lt_of_le (x.lt q) e) (Nat.lt_irrefl _)
/-- every object of the heap is kept -/
theorem HOk.kept (x : HOk P w H h) (k : ∀ b u, h.get? b = some u → h'.get? b = some u) : HOk P w H h' := fun a o e =>
  (x a o e).stay (fun b u _ q => k b u q) (fun _ q => q) fun _ _ q => q
/-- a new object is laid and tracked -/
theorem HOk.laid (x : HOk P w H h) (k : ∀ b u, h.get? b = some u → h'.get? b = some u) (hp : h.objs.size ≤ a) (new : ObjOk P w (upd H a o) h' a o) : HOk P w (upd H a o) h' := fun b u e => by
  have hn := x.fresh hp
  by_cases hb : b = a
  · subst hb; rw [upd_same] at e; cases e; exact new
  · rw [upd_ne hb] at e
    exact (x b u e).stay (fun c v _ q => k c v q) (fun c q => by rw [upd_ne (ne_of_none q hn)]; exact q) fun c xs q => by rw [upd_ne (ne_of_none q hn)]; exact q
end

/-- what may be read as u: it is u, or a known u -/
def Rd (H : Hp) (a : Addr) (u : HO) : Prop := H a = some u ∨ ∃ o, H a = some (.frz o u)
theorem Rd.ok {P : Program} {w : World} {H : Hp} {h : Heap} {a : Addr} {u : HO} (r : Rd H a u) (x : HOk P w H h) : ObjOk P w H h a u := by
  rcases r with r | ⟨o, r⟩
  · exact x a u r
  · obtain ⟨_, q⟩ := x a _ r
    exact q
/-- what may be written -/
def Mut : Option HO → Prop
  | some (.lst _) => True
  | some (.dK _) => True
  | some (.dT _) => True
  | some (.set _ _) => True
  | some (.ins _ _ _) => True
  | some (.ext _) => True
  | _ => False
section
variable {P : Program} {w : World} {H : Hp} {h h' : Heap} {x e : Addr} {o' : HO}
/-- the object at e is changed: x itself, or the dict of the instance x -/
theorem HOk.write (ok : HOk P w H h) (mu : Mut (H x)) (he : e = x ∨ H e = some (.own x)) (k : ∀ b u, b ≠ e → h.get? b = some u → h'.get? b = some u) (heo : ∃ u, h'.get? e = some u)
    (new : ObjOk P w (upd H x o') h' x o') : HOk P w (upd H x o') h' := fun b u q => by
  have nown : ∀ c y, H c = some (.own y) → c ≠ x := fun c y r z => by subst z; rw [r] at mu; exact mu
  have ntup : ∀ c xs, H c = some (.tup xs) → c ≠ x := fun c xs r z => by subst z; rw [r] at mu; exact mu
  by_cases hb : b = x
  · subst hb; rw [upd_same] at q; cases q; exact new
  · rw [upd_ne hb] at q
    by_cases hbe : b = e
    · have q' : H b = some (.own x) := by
        rcases he with z | z
        · exact absurd (hbe.trans z) hb
        · rw [hbe]; exact z
      rw [q] at q'; cases q'
      obtain ⟨v, hv⟩ := heo
      exact ⟨v, by rw [hbe]; exact hv⟩
    · refine (ok b u q).stay (fun c v hc r => k c v ?_ r) (fun c r => by rw [upd_ne (nown c b r)]; exact r) fun c xs r => by rw [upd_ne (ntup c xs r)]; exact r
      rcases hc with rfl | hc
      · exact hbe
      · rintro rfl
        rcases he with z | z
        · exact nown c b hc z
        · rw [hc] at z; cases z; exact hb rfl
end

/-! ### kept unless tracked; of the frames at fs (the callers') the slots may change (an exception that passes writes there); of the records at ex (iterators) nothing is said -/
structure Un (fs ex : List Addr) (H H' : Hp) (h h' : Heap) : Prop where
  keep : ∀ b o, h.get? b = some o → H b = none → b ∉ fs → b ∉ ex → h'.get? b = some o
  slot : ∀ b o, h.get? b = some o → H b = none → b ∈ fs → b ∉ ex → ∃ sl, h'.get? b = some { o with slots := sl }
  free : ∀ b o, h.get? b = some o → H b = none → b ∉ ex → H' b = none
  there : ∀ b o, h.get? b = some o → b ∉ ex → ∃ o', h'.get? b = some o'
  tups : ∀ b xs, H b = some (.tup xs) → H' b = some (.tup xs)
  frzs : ∀ b o u, H b = some (.frz o u) → H' b = some (.frz o u)
  tbls : ∀ b ps, H b = some (.tbl ps) → ∃ more, H' b = some (.tbl (ps ++ more))
section
variable {fs fs' ex ex' : List Addr} {H H1 H2 : Hp} {h h1 h2 h' : Heap} {a x e : Addr} {o : HO}
theorem Un.any (u : Un fs ex H H1 h h1) {b : Addr} {ob : Obj} (q : h.get? b = some ob) (n : H b = none) (hx : b ∉ ex) : ∃ sl, h1.get? b = some { ob with slots := sl } := by
  by_cases hb : b ∈ fs
  · exact u.slot b ob q n hb hx
  · exact ⟨ob.slots, u.keep b ob q n hb hx⟩
theorem Un.kept (k : ∀ b u, h.get? b = some u → h'.get? b = some u) : Un fs ex H H h h' :=
  ⟨fun b ob q _ _ _ => k b ob q, fun b ob q _ _ _ => ⟨ob.slots, k b ob q⟩, fun _ _ _ n _ => n, fun b ob q _ => ⟨ob, k b ob q⟩, fun _ _ q => q, fun _ _ _ q => q, fun _ ps q => ⟨#[], by rw [q]; simp⟩⟩
theorem Un.refl : Un fs ex H H h h := Un.kept fun _ _ q => q
theorem Un.laid (k : ∀ b u, h.get? b = some u → h'.get? b = some u) (hp : h.objs.size ≤ a) (hn : H a = none) : Un fs ex H (upd H a o) h h' where
  keep := fun b u q _ _ _ => k b u q
  slot := fun b u q _ _ _ => ⟨u.slots, k b u q⟩
  free := fun b u q n _ => by rw [upd_ne (Nat.ne_of_lt (Nat.lt_of_lt_of_le (Heap.lt_size q) hp))]; exact n
  there := fun b u q _ => ⟨u, k b u q⟩
  tups := fun b xs q => by rw [upd_ne (ne_of_none q hn)]; exact q
  frzs := fun b u xs q => by rw [upd_ne (ne_of_none q hn)]; exact q
  tbls := fun b ps q => ⟨#[], by rw [upd_ne (ne_of_none q hn), q]; simp⟩
theorem Un.write (mu : Mut (H x)) (he : e = x ∨ H e = some (.own x)) (k : ∀ b u, b ≠ e → h.get? b = some u → h'.get? b = some u) (heo : ∃ u, h'.get? e = some u) : Un fs ex H (upd H x o) h h' := by
  have hx : ∀ b, H b = none → b ≠ x := fun b n z => by subst z; rw [n] at mu; exact mu
  have hb : ∀ b, H b = none → b ≠ e := fun b n z => by
    subst z
    rcases he with r | r
    · exact hx b n r
    · rw [n] at r; cases r
  have hm : ∀ b u, H b = some u → ¬ Mut (some u) → b ≠ x := fun b u q nm z => by subst z; rw [q] at mu; exact nm mu
  refine ⟨fun b u q n _ _ => k b u (hb b n) q, fun b u q n _ _ => ⟨u.slots, k b u (hb b n) q⟩, fun b u q n _ => by rw [upd_ne (hx b n)]; exact n, fun b u q _ => ?_,
    fun b xs q => by rw [upd_ne (hm b _ q fun z => z)]; exact q, fun b u xs q => by rw [upd_ne (hm b _ q fun z => z)]; exact q, fun b ps q => ⟨#[], by rw [upd_ne (hm b _ q fun z => z), q]; simp⟩⟩
  by_cases hbe : b = e
  · subst hbe; exact heo
  · exact ⟨u, k b u hbe q⟩
end

/-! ### the heap without what is tracked -/
def trk (h : Heap) (H : Hp) : List Addr := (List.range h.objs.size).filter fun a => (H a).isSome
def hidT (h : Heap) (H : Hp) : Heap := PySem.W.hideAll h (trk h H)
theorem hidT_size (h : Heap) (H : Hp) : (hidT h H).objs.size = h.objs.size := PySem.W.hideAll_size _ _
theorem hidT_get {h : Heap} {H : Hp} {b : Addr} {o : Obj} (e : h.get? b = some o) (n : H b = none) : (hidT h H).get? b = some o :=
  PySem.W.hideAll_get _ e fun hm => by
    have q : (H b).isSome = true := (List.mem_filter.mp hm).2
    rw [n] at q; simp at q
theorem of_hidT {h : Heap} {H : Hp} {b : Addr} {o : Obj} (e : (hidT h H).get? b = some o) : h.get? b = some o ∧ H b = none := by
  have e' : h.get? b = some o := PySem.W.of_hideAll (trk h H) e
  refine ⟨e', ?_⟩
  cases q : H b with
  | none => rfl
  | some x =>
    have hm : b ∈ trk h H := List.mem_filter.mpr ⟨List.mem_range.mpr (Heap.lt_size e'), by simp [q]⟩
    have z : (hidT h H).get? b = none := PySem.W.hideAll_none (trk h H) hm
    rw [z] at e; cases e

/-! ### OpenK's ledger, filled with every new object but one -/
end L2

namespace L2
open PySem PySem.Spec PyProof.Rows

/-- the module's facts, over the base: the heap at the law's entry without what is tracked there -/
structure Mod (K : PySem.W.Frag) (mg : Str → Option Value) (base : Heap) : Prop where
  kin : K.In base
  glob : base.Ns mainGlobals mg
  blt : ∃ mb, base.Ns builtinsNs mb ∧ ∀ x : Str, x ≠ "__name__" → mb x = bootBuiltins x
  nolimit : base.NoLimit

/-- the context: a def's body (or a comprehension's block) running. base: fixed through the whole law; s₀, H₀: the entry; outer: the frames whose slots others may change (a def's callers); stack: all frames that run;
   ex: iterators that were made ahead of the entry and are walked here (a comprehension's); fn: the names whose cells were made at the entry (a def: all; a comprehension's block: its own); calm: not within an except suite; pn: pins that every state bears; xe: what is wanted of an exception that leaves the code -/
structure Cx where
  prog : Program
  w : World
  K : PySem.W.Frag
  mg : Str → Option Value
  base : Heap
  A : Around
  N : List Str
  s_0 : Shared
  H_0 : Hp
  env : Env
  outer : List Env
  stack : List Env
  ex : List Addr
  fn : Str → Bool
  calm : Bool
  pn : List (Addr × Obj)
  xe : Value → Shared → Prop
/-- the callers' frames -/
def frs (l : List Env) : List Addr := l.filterMap (·.frame)
abbrev Cx.fs (X : Cx) : List Addr := frs X.outer

def Vis (sc : Scope) (x : Str) : Prop := sc.names.lookup x = some .local ∨ sc.names.lookup x = some .cell ∨ sc.names.lookup x = some .free
def Loc (sc : Scope) (x : Str) : Prop := sc.names.lookup x = some .local ∨ sc.names.lookup x = some .cell
def Look (env : Env) (h : Heap) (m : Str → Option Value) (x : Str) (u : Value) : Prop :=
  (env.kindOf x = some .local ∧ m x = some u) ∨ ((env.kindOf x = some .cell ∨ env.kindOf x = some .free) ∧ ∃ c, env.cells.lookup x = some c ∧ h.IsCell c (some u))

structure Cx.Ok (X : Cx) : Prop where
  mod : Mod X.K X.mg X.base
  kind : X.env.scope.kind = .function
  glob : X.env.globals = mainGlobals
  blt : X.env.builtins = builtinsNs
  above : X.s_0.heap.objs.size ≤ X.env.locals
  inj : ∀ x y c, X.env.cells.lookup x = some c → X.env.cells.lookup y = some c → x = y
  has : ∀ x, (X.env.kindOf x = some .cell ∨ X.env.kindOf x = some .free) → ∃ c, X.env.cells.lookup x = some c
  cab : ∀ x c, X.fn x = true → X.env.cells.lookup x = some c → X.s_0.heap.objs.size ≤ c
  hd : X.calm = true → X.A.handled = none
  frames : X.A.frames = some X.stack
  stk : X.stack = X.outer ∨ (X.stack = X.env :: X.outer ∧ X.env.frame = some X.env.locals)
  exf : ∀ b ∈ X.ex, b ≠ X.env.locals ∧ ∀ x c, X.env.cells.lookup x = some c → c ≠ b
  bs : ∀ b o, X.base.get? b = some o → X.s_0.heap.get? b = some o ∧ X.H_0 b = none
  bsz : X.base.objs.size ≤ X.s_0.heap.objs.size
  noex : ∀ b o, X.base.get? b = some o → b ∉ X.ex
  exfs : ∀ b ∈ X.ex, b ∉ X.fs
  funs : X.s_0.heap.FunFrames X.base X.outer
  frf : ∀ b ∈ X.fs, X.H_0 b = none

structure Inv (X : Cx) (pins : List (Addr × Obj)) (σ : List (Option V)) (H : Hp) (s : Shared) : Prop where
  ok : X.Ok
  os : s.os = X.s_0.os
  bare : AllBare s.gens
  base : Un X.fs X.ex X.H_0 H X.s_0.heap s.heap
  loc : ∃ m, s.heap.Ns X.env.locals m ∧ ∀ (i : Nat) (x : Str) (v : V), X.N[i]? = some x → σ[i]? = some (some v) → Vis X.env.scope x → ∃ u, RelV v u ∧ Look X.env s.heap m x u
  cell : ∀ x c, X.env.cells.lookup x = some c → ∃ v, s.heap.IsCell c v
  free : H X.env.locals = none
  freeC : ∀ x c, X.env.cells.lookup x = some c → H c = none
  pin : ∀ p ∈ X.pn ++ pins, s.heap.get? p.1 = some p.2 ∧ H p.1 = none ∧ p.1 ≠ X.env.locals ∧ p.1 ∉ X.fs ∧ ∀ v, p.2.data ≠ .cell v
  hok : HOk X.prog X.w H s.heap
  len : σ.length = X.N.length

section
variable {X : Cx} {pins : List (Addr × Obj)} {σ : List (Option V)} {H H' : Hp} {s : Shared} {h' : Heap}

theorem Cx.Ok.nofr (ok : X.Ok) {b : Addr} {o : Obj} (e : X.base.get? b = some o) : b ∉ X.fs := fun hb => by
  have := (ok.funs.mem hb).1
  rw [e] at this; cases this
theorem Inv.bs (I : Inv X pins σ H s) : ∀ b o, X.base.get? b = some o → s.heap.get? b = some o ∧ H b = none := fun b o e =>
  ⟨I.base.keep b o (I.ok.bs b o e).1 (I.ok.bs b o e).2 (I.ok.nofr e) (I.ok.noex b o e), I.base.free b o (I.ok.bs b o e).1 (I.ok.bs b o e).2 (I.ok.noex b o e)⟩
theorem Inv.bk (I : Inv X pins σ H s) : ∀ b o, X.base.get? b = some o → s.heap.get? b = some o := fun b o e => (I.bs b o e).1
theorem Inv.mod (I : Inv X pins σ H s) : Mod X.K X.mg X.base := I.ok.mod
theorem Inv.kIn (I : Inv X pins σ H s) : X.K.In s.heap := I.ok.mod.kin.keeps I.bk
theorem Inv.lt (I : Inv X pins σ H s) : X.env.locals < s.heap.objs.size := let ⟨_, hn, _⟩ := I.loc; hn.lt
theorem Inv.sz (I : Inv X pins σ H s) : X.s_0.heap.objs.size ≤ s.heap.objs.size := Nat.le_trans I.ok.above (Nat.le_of_lt I.lt)
theorem Inv.nofs (I : Inv X pins σ H s) {a : Addr} (h : s.heap.objs.size ≤ a) : a ∉ X.fs := fun hb => by
  obtain ⟨_, o, ho, _⟩ := I.ok.funs.mem hb
  exact absurd (Nat.lt_of_lt_of_le (Heap.lt_size ho) (Nat.le_trans I.sz h)) (Nat.lt_irrefl _)
theorem Inv.cne (I : Inv X pins σ H s) : ∀ x c, X.env.cells.lookup x = some c → c ≠ X.env.locals := fun x c e z => by
  obtain ⟨v, o, ho, hd⟩ := I.cell x c e
  obtain ⟨m, ⟨o', es, ep, ho', hd', _⟩, _⟩ := I.loc
  rw [z, ho'] at ho; cases ho; rw [hd'] at hd; cases hd
theorem Inv.funs (I : Inv X pins σ H s) : s.heap.FunFrames X.base X.outer := by
  have all : ∀ (l : List Env), (∀ b ∈ frs l, b ∈ X.fs) → X.s_0.heap.FunFrames X.base l → s.heap.FunFrames X.base l := by
    intro l
    induction l with
    | nil => intro _ _; trivial
    | cons env r ih =>
      intro hs hl
      obtain ⟨hk, ⟨L, o, hf, hn, ho, hd⟩, hr⟩ := hl
      have hL : L ∈ X.fs := hs L (by unfold frs; rw [List.filterMap_cons, hf]; exact List.mem_cons_self)
      obtain ⟨sl, e⟩ := I.base.slot L o ho (I.ok.frf L hL) hL fun z => I.ok.exfs L z hL
      exact ⟨hk, ⟨L, _, hf, hn, e, hd⟩, ih (fun b hb => hs b (by unfold frs; rw [List.filterMap_cons, hf]; exact List.mem_cons_of_mem _ hb)) hr⟩
  exact all X.outer (fun _ hb => hb) I.ok.funs

/-- the frames that run, for a call -/
theorem Inv.stack (I : Inv X pins σ H s) : s.heap.FunFrames X.base X.stack := by
  rcases I.ok.stk with e | ⟨e, hf⟩
  · rw [e]; exact I.funs
  · rw [e]
    obtain ⟨m, hn, _⟩ := I.loc
    refine .cons (by rw [I.ok.kind]; decide) hf hn ?_ I.funs
    exact Heap.get?_none_of_le (Nat.le_trans I.ok.bsz I.ok.above)
theorem Inv.stkSub (I : Inv X pins σ H s) : ∀ b ∈ frs X.stack, b ∈ X.env.locals :: X.fs := fun b hb => by
  rcases I.ok.stk with e | ⟨e, hf⟩
  · rw [e] at hb; exact List.mem_cons_of_mem _ hb
  · rw [e] at hb
    unfold frs at hb
    rw [List.filterMap_cons, hf] at hb
    exact hb
theorem Inv.stkFree (I : Inv X pins σ H s) : ∀ b ∈ frs X.stack, H b = none := fun b hb => by
  rcases List.mem_cons.mp (I.stkSub b hb) with e | hb
  · rw [e]; exact I.free
  · obtain ⟨_, o, ho, _⟩ := I.ok.funs.mem hb
    exact I.base.free b o ho (I.ok.frf b hb) fun z => I.ok.exfs b z hb

/-- THE STEP: the untracked objects but the frame and the records at ch are kept (the callers' frames up to slots), the frame's map is kept, the new abstract heap is held -/
theorem Inv.step {g' : Array GenState} {t' : Nat} {d' : Drawn} {ch : List Addr} (I : Inv X pins σ H s)
    (hch : ∀ b ∈ ch, (b ∈ X.ex ∨ X.s_0.heap.objs.size ≤ b) ∧ b ≠ X.env.locals ∧ (∀ x c, X.env.cells.lookup x = some c → c ≠ b) ∧ ∀ p ∈ X.pn ++ pins, p.1 ≠ b)
    (keep : ∀ b o, b ≠ X.env.locals → b ∉ X.fs → b ∉ ch → s.heap.get? b = some o → H b = none → h'.get? b = some o)
    (slot : ∀ b o, b ≠ X.env.locals → b ∈ X.fs → b ∉ ch → s.heap.get? b = some o → H b = none → ∃ sl, h'.get? b = some { o with slots := sl }) (free : ∀ b o, b ∉ ch → s.heap.get? b = some o → H b = none → H' b = none)
    (there : ∀ b o, b ∉ ch → s.heap.get? b = some o → ∃ o', h'.get? b = some o')
    (tups : ∀ b xs, H b = some (.tup xs) → H' b = some (.tup xs)) (frzs : ∀ b o u, H b = some (.frz o u) → H' b = some (.frz o u)) (tbls : ∀ b ps, H b = some (.tbl ps) → ∃ more, H' b = some (.tbl (ps ++ more)))
    (ns : ∀ m, s.heap.Ns X.env.locals m → h'.Ns X.env.locals m) (hok : HOk X.prog X.w H' h') (hg : AllBare g') :
    Inv X pins σ H' { s with heap := h', gens := g', drawn := d', toks := t' } := by
  have neL : ∀ b o, X.s_0.heap.get? b = some o → b ≠ X.env.locals := fun b o e => Nat.ne_of_lt (Nat.lt_of_lt_of_le (Heap.lt_size e) I.ok.above)
  have neC : ∀ b o, X.s_0.heap.get? b = some o → b ∉ X.ex → b ∉ ch := fun b o e hx hb => by
    rcases (hch b hb).1 with z | z
    · exact hx z
    · exact absurd (Nat.lt_of_lt_of_le (Heap.lt_size e) z) (Nat.lt_irrefl _)
  have cellK : ∀ x c, X.env.cells.lookup x = some c → ∀ v, s.heap.IsCell c v → h'.IsCell c v := fun x c e v ⟨o, ho, hd⟩ => by
    have nch : c ∉ ch := fun z => (hch c z).2.2.1 x c e rfl
    by_cases hc : c ∈ X.fs
    · obtain ⟨sl, q⟩ := slot c o (I.cne x c e) hc nch ho (I.freeC x c e)
      exact ⟨_, q, hd⟩
    · exact ⟨o, keep c o (I.cne x c e) hc nch ho (I.freeC x c e), hd⟩
  refine ⟨I.ok, I.os, hg, ⟨fun b o e n hb hx => ?_, fun b o e n hb hx => ?_, fun b o e n hx => ?_, fun b o e hx => ?_, fun b xs e => tups b xs (I.base.tups b xs e), fun b o xs e => frzs b o xs (I.base.frzs b o xs e), fun b ps e => ?_⟩, ?_, fun x c e => ?_, ?_, fun x c e => ?_, fun p hp => ?_, hok, I.len⟩
  · exact keep b o (neL b o e) hb (neC b o e hx) (I.base.keep b o e n hb hx) (I.base.free b o e n hx)
  · obtain ⟨sl, e1⟩ := I.base.slot b o e n hb hx
    obtain ⟨sl', e2⟩ := slot b _ (neL b o e) hb (neC b o e hx) e1 (I.base.free b o e n hx)
    exact ⟨sl', e2⟩
  · obtain ⟨o', e1⟩ := I.base.there b o e hx
    exact free b o' (neC b o e hx) e1 (I.base.free b o e n hx)
  · obtain ⟨o', e1⟩ := I.base.there b o e hx
    exact there b o' (neC b o e hx) e1
  · obtain ⟨m1, e1⟩ := I.base.tbls b ps e
    obtain ⟨m2, e2⟩ := tbls b _ e1
    exact ⟨m1 ++ m2, by rw [e2, Array.append_assoc]⟩
  · obtain ⟨m, hn, hl⟩ := I.loc
    refine ⟨m, ns m hn, fun i x v e1 e2 e3 => ?_⟩
    obtain ⟨u, r, l⟩ := hl i x v e1 e2 e3
    refine ⟨u, r, ?_⟩
    rcases l with l | ⟨k, c, e, z⟩
    · exact .inl l
    · exact .inr ⟨k, c, e, cellK x c e _ z⟩
  · obtain ⟨v, z⟩ := I.cell x c e
    exact ⟨v, cellK x c e v z⟩
  · obtain ⟨m, ⟨o, _, _, ho, _⟩, _⟩ := I.loc
    exact free _ o (fun z => (hch _ z).2.1 rfl) ho I.free
  · obtain ⟨v, o, ho, hd⟩ := I.cell x c e
    exact free c o (fun z => (hch c z).2.2.1 x c e rfl) ho (I.freeC x c e)
  · obtain ⟨e, n, ne, nf, d⟩ := I.pin p hp
    have nch : p.1 ∉ ch := fun z => (hch p.1 z).2.2.2 p hp rfl
    exact ⟨keep p.1 p.2 ne nf nch e n, free p.1 p.2 nch e n, ne, nf, d⟩
/-- .. where the frame's own object is kept too -/
theorem Inv.un {t' : Nat} (I : Inv X pins σ H s) (u : Un X.fs [] H H' s.heap h') (hok : HOk X.prog X.w H' h') : Inv X pins σ H' { s with heap := h', toks := t' } := by
  obtain ⟨m, ⟨o, es, ep, ho, r⟩, _⟩ := id I.loc
  obtain ⟨sl, hL⟩ := u.any ho I.free (by simp)
  exact I.step (g' := s.gens) (d' := s.drawn) (ch := []) (fun _ z => nomatch z) (fun b o _ hb _ e n => u.keep b o e n hb (by simp)) (fun b o _ hb _ e n => u.slot b o e n hb (by simp)) (fun b o _ e n => u.free b o e n (by simp)) (fun b o _ e => u.there b o e (by simp)) u.tups u.frzs u.tbls (fun m' hm => by
    obtain ⟨o', es', ep', ho', r'⟩ := hm
    rw [ho] at ho'; cases ho'
    exact ⟨_, es', ep', hL, r'⟩) hok I.bare
/-- behind a call (or a comprehension's block): the slots of this frame may have changed too, the records at ch may have turned -/
theorem Inv.call {g' : Array GenState} {t' : Nat} {d' : Drawn} {ch : List Addr} (I : Inv X pins σ H s) (u : Un (frs X.stack) ch H H' s.heap h') (hok : HOk X.prog X.w H' h') (hg : AllBare g')
    (hch : ∀ b ∈ ch, (b ∈ X.ex ∨ X.s_0.heap.objs.size ≤ b) ∧ b ≠ X.env.locals ∧ (∀ x c, X.env.cells.lookup x = some c → c ≠ b) ∧ ∀ p ∈ X.pn ++ pins, p.1 ≠ b) :
    Inv X pins σ H' { s with heap := h', gens := g', drawn := d', toks := t' } := by
  obtain ⟨m, ⟨o, es, ep, ho, r⟩, _⟩ := id I.loc
  obtain ⟨sl, hL⟩ := u.any ho I.free fun z => (hch _ z).2.1 rfl
  exact I.step (ch := ch) hch (fun b o hL hb hc e n => u.keep b o e n (fun z => (List.mem_cons.mp (I.stkSub b z)).elim hL hb) hc) (fun b o _ _ hc e n => u.any e n hc) (fun b o hc e n => u.free b o e n hc) (fun b o hc e => u.there b o e hc) u.tups u.frzs u.tbls (fun m' hm => by
    obtain ⟨o', es', ep', ho', r'⟩ := hm
    rw [ho] at ho'; cases ho'
    exact ⟨_, es', ep', hL, r'⟩) hok hg
/-- an untracked record of ours (an iterator) has turned -/
theorem Inv.turned {t' : Nat} {it : Addr} (I : Inv X pins σ H s) (k : ∀ b o, b ≠ it → s.heap.get? b = some o → h'.get? b = some o) (hn : H it = none) (hL : it ≠ X.env.locals)
    (h1 : it ∈ X.ex ∨ X.s_0.heap.objs.size ≤ it) (h2 : ∀ x c, X.env.cells.lookup x = some c → c ≠ it) (h3 : ∀ p ∈ X.pn ++ pins, p.1 ≠ it) : Inv X pins σ H { s with heap := h', toks := t' } := by
  have nit : ∀ b u, H b = some u → b ≠ it := fun b u e z => by rw [z, hn] at e; cases e
  refine I.step (g' := s.gens) (d' := s.drawn) (ch := [it]) (fun b hb => ?_) (fun b o _ _ hc e _ => k b o (fun z => hc (by simp [z])) e) (fun b o _ _ hc e _ => ⟨o.slots, k b o (fun z => hc (by simp [z])) e⟩) (fun _ _ _ _ n => n)
    (fun b o hc e => ⟨o, k b o (fun z => hc (by simp [z])) e⟩) (fun _ _ e => e) (fun _ _ _ e => e) (fun b ps e => ⟨#[], by rw [e]; simp⟩) (fun m hm => ?_) (fun b u e => ?_) I.bare
  · have e : b = it := by simpa using hb
    subst e
    exact ⟨h1, hL, h2, h3⟩
  · obtain ⟨o, es, ep, ho, r⟩ := hm
    exact ⟨o, es, ep, k _ o (Ne.symm hL) ho, r⟩
  · refine (I.hok b u e).stay (fun c v hc q => k c v ?_ q) (fun _ q => q) fun _ _ q => q
    rcases hc with z | z
    · rw [z]; exact nit b u e
    · exact nit c _ z
theorem Inv.tok (I : Inv X pins σ H s) (t : Nat) : Inv X pins σ H { s with toks := t } := I.un (h' := s.heap) (t' := t) Un.refl I.hok
/-- all objects kept -/
theorem Inv.kept {t' : Nat} (I : Inv X pins σ H s) (k : ∀ b u, s.heap.get? b = some u → h'.get? b = some u) : Inv X pins σ H { s with heap := h', toks := t' } := I.un (Un.kept k) (I.hok.kept k)
/-- a new object laid and tracked -/
theorem Inv.laid {a : Addr} {o : HO} {t' : Nat} (I : Inv X pins σ H s) (k : ∀ b u, s.heap.get? b = some u → h'.get? b = some u) (hp : s.heap.objs.size ≤ a) (new : ObjOk X.prog X.w (upd H a o) h' a o) :
    Inv X pins σ (upd H a o) { s with heap := h', toks := t' } := I.un (Un.laid k hp (I.hok.fresh hp)) (I.hok.laid k hp new)
/-- an object written -/
theorem Inv.write {x e : Addr} {o : HO} {t' : Nat} (I : Inv X pins σ H s) (mu : Mut (H x)) (he : e = x ∨ H e = some (.own x)) (k : ∀ b u, b ≠ e → s.heap.get? b = some u → h'.get? b = some u) (heo : ∃ u, h'.get? e = some u)
    (new : ObjOk X.prog X.w (upd H x o) h' x o) : Inv X pins σ (upd H x o) { s with heap := h', toks := t' } := I.un (Un.write mu he k heo) (I.hok.write mu he k heo new)
theorem Inv.pins_of {pins' : List (Addr × Obj)} (I : Inv X pins σ H s) (h : ∀ p ∈ pins', s.heap.get? p.1 = some p.2 ∧ H p.1 = none ∧ p.1 ≠ X.env.locals ∧ p.1 ∉ X.fs ∧ ∀ v, p.2.data ≠ .cell v) : Inv X pins' σ H s :=
  ⟨I.ok, I.os, I.bare, I.base, I.loc, I.cell, I.free, I.freeC, fun p hp => (List.mem_append.mp hp).elim (fun z => I.pin p (List.mem_append_left _ z)) (h p), I.hok, I.len⟩

theorem nodup_ix {N : List Str} (hN : N.Nodup) {i j : Nat} {x : Str} (a : N[i]? = some x) (b : N[j]? = some x) : i = j := by
  obtain ⟨h1, e1⟩ := List.getElem?_eq_some_iff.mp a
  obtain ⟨h2, e2⟩ := List.getElem?_eq_some_iff.mp b
  exact (List.getElem_inj hN).mp (e1.trans e2.symm)

/-- a name is stored; what changed -/
theorem store_ok2 {M : Model} {A : Around} {E : Value → Shared → Prop} {i : Nat} {x : Str} {v : V} {u : Value} {Q : Unit → Shared → Prop} (I : Inv X pins σ H s) (hN : X.N.Nodup) (hi : X.N[i]? = some x) (hx : Loc X.env.scope x) (r : RelV v u)
    (h : ∀ s', Inv X pins (σ.set i (some v)) H s' → (∃ a, Heap.SameBut a s.heap s'.heap ∧ (a = X.env.locals ∨ X.env.cells.lookup x = some a)) → Q () s') (hf : X.fn x = true ∨ X.env.scope.names.lookup x = some .local := by first | exact .inl rfl | exact .inr rfl | assumption) : wpAny M A (storeName X.env x u) Q E s := by
  obtain ⟨m, hn, hl⟩ := id I.loc
  have hcls : (X.env.scope.kind == .class || (X.env.scope.kind == .module && X.env.locals != X.env.globals)) = false := by rw [I.ok.kind]; rfl
  have hiσ : i < σ.length := by rw [I.len]; exact (List.getElem?_eq_some_iff.mp hi).1
  have cne := I.cne
  have tracked : ∀ {a : Addr} {h' : Heap}, (∃ o, s.heap.get? a = some o ∧ H a = none) → Heap.SameBut a s.heap h' → HOk X.prog X.w H h' := fun {a h'} ha hs b ob e => by
    obtain ⟨_, _, hfree⟩ := ha
    refine (I.hok b ob e).stay (fun c w' hc q => (hs.2 c ?_).trans q) (fun _ q => q) fun _ _ q => q
    rintro rfl
    rcases hc with rfl | hc
    · rw [hfree] at e; cases e
    · rw [hfree] at hc; cases hc
  rcases hx with hk | hk
  · refine wpAny_storeName_local hk hn (fun h' hn' hs => ?_) hcls
    obtain ⟨oL, _, _, hoL, _⟩ := id hn
    refine h _ ⟨I.ok, I.os, I.bare, ⟨fun b o e n hb hx => ?_, fun b o e n hb hx => ?_, I.base.free, fun b o e hx => ?_, I.base.tups, I.base.frzs, I.base.tbls⟩, ⟨_, hn', fun j y v' e1 e2 e3 => ?_⟩, fun y c e => ?_, I.free, I.freeC, fun p hp => ?_, tracked ⟨oL, hoL, I.free⟩ hs, by simpa using I.len⟩ ⟨_, hs, .inl rfl⟩
    · exact (hs.2 b (Nat.ne_of_lt (Nat.lt_of_lt_of_le (Heap.lt_size e) I.ok.above))).trans (I.base.keep b o e n hb hx)
    · obtain ⟨sl, e1⟩ := I.base.slot b o e n hb hx
      exact ⟨sl, (hs.2 b (Nat.ne_of_lt (Nat.lt_of_lt_of_le (Heap.lt_size e) I.ok.above))).trans e1⟩
    · obtain ⟨o', e1⟩ := I.base.there b o e hx
      exact ⟨o', (hs.2 b (Nat.ne_of_lt (Nat.lt_of_lt_of_le (Heap.lt_size e) I.ok.above))).trans e1⟩
    · by_cases hj : j = i
      · subst hj
        rw [hi] at e1; cases e1
        rw [List.getElem?_set_self hiσ] at e2
        cases e2
        exact ⟨u, r, .inl ⟨hk, by simp⟩⟩
      · rw [List.getElem?_set_ne (Ne.symm hj)] at e2
        obtain ⟨u', r', q⟩ := hl j y v' e1 e2 e3
        refine ⟨u', r', ?_⟩
        rcases q with ⟨k, e⟩ | ⟨k, c, e, z⟩
        · refine .inl ⟨k, ?_⟩
          have : y ≠ x := fun e => hj (nodup_ix hN e1 (e ▸ hi))
          simp [this, e]
        · exact .inr ⟨k, c, e, z.sameBut hs (cne y c e)⟩
    · obtain ⟨w', z⟩ := I.cell y c e
      exact ⟨w', z.sameBut hs (cne y c e)⟩
    · obtain ⟨e, n, ne, nf, d⟩ := I.pin p hp
      exact ⟨(hs.2 p.1 ne).trans e, n, ne, nf, d⟩
  · have hfn : X.fn x = true := by
      rcases hf with z | z
      · exact z
      · rw [z] at hk; cases hk
    obtain ⟨c, hc⟩ := I.ok.has x (.inl hk)
    obtain ⟨w', z⟩ := I.cell x c hc
    refine wpAny_storeName_cell I.ok.kind hk hc z (fun h' hc' hs => ?_)
    obtain ⟨oc, hoc, hocd⟩ := id z
    refine h { s with heap := h' } ⟨I.ok, I.os, I.bare, ⟨fun b o e n hb hx => ?_, fun b o e n hb hx => ?_, I.base.free, fun b o e hx => ?_, I.base.tups, I.base.frzs, I.base.tbls⟩, ⟨m, hn.sameBut hs (Ne.symm (cne x c hc)), fun j y v' e1 e2 e3 => ?_⟩, fun y c' e => ?_, I.free, I.freeC, fun p hp => ?_, tracked ⟨oc, hoc, I.freeC x c hc⟩ hs, by simpa using I.len⟩ ⟨c, hs, .inr hc⟩
    · exact (hs.2 b (Nat.ne_of_lt (Nat.lt_of_lt_of_le (Heap.lt_size e) (I.ok.cab x c hfn hc)))).trans (I.base.keep b o e n hb hx)
    · obtain ⟨sl, e1⟩ := I.base.slot b o e n hb hx
      exact ⟨sl, (hs.2 b (Nat.ne_of_lt (Nat.lt_of_lt_of_le (Heap.lt_size e) (I.ok.cab x c hfn hc)))).trans e1⟩
    · obtain ⟨o', e1⟩ := I.base.there b o e hx
      exact ⟨o', (hs.2 b (Nat.ne_of_lt (Nat.lt_of_lt_of_le (Heap.lt_size e) (I.ok.cab x c hfn hc)))).trans e1⟩
    · by_cases hj : j = i
      · subst hj
        rw [hi] at e1; cases e1
        rw [List.getElem?_set_self hiσ] at e2
        cases e2
        exact ⟨u, r, .inr ⟨.inl hk, c, hc, hc'⟩⟩
      · rw [List.getElem?_set_ne (Ne.symm hj)] at e2
        obtain ⟨u', r', q⟩ := hl j y v' e1 e2 e3
        refine ⟨u', r', ?_⟩
        rcases q with q | ⟨k, c', e, z'⟩
        · exact .inl q
        · refine .inr ⟨k, c', e, z'.sameBut hs ?_⟩
          rintro rfl
          exact hj (nodup_ix hN e1 (I.ok.inj _ _ _ e hc ▸ hi))
    · by_cases hcc : c' = c
      · subst hcc; exact ⟨_, hc'⟩
      · obtain ⟨w2, z2⟩ := I.cell y c' e
        exact ⟨w2, z2.sameBut hs hcc⟩
    · obtain ⟨e, n, ne, nf, d⟩ := I.pin p hp
      refine ⟨(hs.2 p.1 ?_).trans e, n, ne, nf, d⟩
      intro q
      rw [q, hoc] at e
      have q' : oc = p.2 := Option.some.inj e
      exact d w' (by rw [← q']; exact hocd)
theorem store_ok {M : Model} {A : Around} {E : Value → Shared → Prop} {i : Nat} {x : Str} {v : V} {u : Value} {Q : Unit → Shared → Prop} (I : Inv X pins σ H s) (hN : X.N.Nodup) (hi : X.N[i]? = some x) (hx : Loc X.env.scope x) (r : RelV v u)
    (h : ∀ s', Inv X pins (σ.set i (some v)) H s' → Q () s') (hf : X.fn x = true ∨ X.env.scope.names.lookup x = some .local := by first | exact .inl rfl | exact .inr rfl | assumption) : wpAny M A (storeName X.env x u) Q E s :=
  store_ok2 I hN hi hx r (fun s' I' _ => h s' I') hf
end

/-! ### the judgements -/
/-- an exception: its class, its own dict's address (where it has one), the abstract heap behind it -/
abbrev XK := Value → Option Addr → Hp → Prop
abbrev St := List (Option V)
abbrev VK := V → Hp → Prop
/-- an expression's reading; a test's; an argument list's -/
abbrev TE := St → Hp → VK → Prop
abbrev TT := St → Hp → (Bool → Hp → Prop) → Prop
abbrev TA := St → Hp → (List V → Hp → Prop) → Prop
/-- what is wanted behind a statement -/
structure Ends where
  nx : St → Hp → Prop
  rt : VK
  bk : St → Hp → Prop := fun _ _ => False
  ct : St → Hp → Prop := fun _ _ => False
abbrev TS := Ends → St → Hp → Prop

def EP (X : Cx) (pins : List (Addr × Obj)) (σ : St) (Q : VK) (u : Value) (s' : Shared) : Prop := ∃ v H', Inv X pins σ H' s' ∧ RelV v u ∧ Q v H'
def TP (X : Cx) (pins : List (Addr × Obj)) (σ : St) (Q : Bool → Hp → Prop) (b : Bool) (s' : Shared) : Prop := ∃ H', Inv X pins σ H' s' ∧ Q b H'
def AP (X : Cx) (pins : List (Addr × Obj)) (σ : St) (Q : List V → Hp → Prop) (us : List Value) (s' : Shared) : Prop := ∃ vs H', Inv X pins σ H' s' ∧ Vals vs us ∧ Q vs H'
def SP (X : Cx) (pins : List (Addr × Obj)) (D : Ends) (f : Flow) (s' : Shared) : Prop :=
  match f with
  | .next => ∃ σ' H', Inv X pins σ' H' s' ∧ D.nx σ' H'
  | .brk => ∃ σ' H', Inv X pins σ' H' s' ∧ D.bk σ' H'
  | .cont => ∃ σ' H', Inv X pins σ' H' s' ∧ D.ct σ' H'
  | .ret u => ∃ v σ' H', Inv X pins σ' H' s' ∧ RelV v u ∧ D.rt v H'

def PE (X : Cx) (e : Expr) (t : TE) : Prop :=
  ∀ (pins : List (Addr × Obj)) (s : Shared) (σ : St) (H : Hp) (Q : VK), Inv X pins σ H s → t σ H Q → wpAny (model X.prog X.w) X.A (eval e X.env) (EP X pins σ Q) X.xe s
def PT (X : Cx) (e : Expr) (t : TT) : Prop :=
  ∀ (pins : List (Addr × Obj)) (s : Shared) (σ : St) (H : Hp) (Q : Bool → Hp → Prop), Inv X pins σ H s → t σ H Q → wpAny (model X.prog X.w) X.A (isTrue e X.env (eval e X.env)) (TP X pins σ Q) X.xe s
/-- a test whatever its 'whole' is (and, or) -/
def PW (X : Cx) (e : Expr) (t : TT) : Prop :=
  ∀ (whole : Sem Value) (pins : List (Addr × Obj)) (s : Shared) (σ : St) (H : Hp) (Q : Bool → Hp → Prop), Inv X pins σ H s → t σ H Q → wpAny (model X.prog X.w) X.A (isTrue e X.env whole) (TP X pins σ Q) X.xe s
theorem PW.pt {X : Cx} {e : Expr} {t : TT} (h : PW X e t) : PT X e t := h _
/-- an argument list (no star), from the left -/
def PA (X : Cx) (es : List Expr) (t : TA) : Prop :=
  ∀ (pos : Pos) (pins : List (Addr × Obj)) (s : Shared) (σ : St) (H : Hp) (Q : List V → Hp → Prop), Inv X pins σ H s → t σ H Q → wpAny (model X.prog X.w) X.A (spliced (backTo pos (starEach es X.env))) (AP X pins σ Q) X.xe s
def PS (X : Cx) (st : Stmt) (t : TS) : Prop :=
  ∀ (pins : List (Addr × Obj)) (s : Shared) (σ : St) (H : Hp) (D : Ends), Inv X pins σ H s → t D σ H → wpAny (model X.prog X.w) X.A (exec st X.env) (SP X pins D) X.xe s
def PSs (X : Cx) (st : List Stmt) (t : TS) : Prop :=
  ∀ (pins : List (Addr × Obj)) (s : Shared) (σ : St) (H : Hp) (D : Ends), Inv X pins σ H s → t D σ H → wpAny (model X.prog X.w) X.A (execs st X.env) (SP X pins D) X.xe s
/-- weaken the end -/
theorem thn {α : Type} {t : Sem α} {Q Q' : α → Shared → Prop} {M : Model} {A : Around} {E : Value → Shared → Prop} {s : Shared} (h : wpAny M A t Q E s) (hQ : ∀ a s, Q a s → Q' a s) : wpAny M A t Q' E s := wpAny_mono h hQ fun _ _ x => x
end L2

namespace L2
open PySem PySem.Spec PyProof.Rows
section
variable {X : Cx}


/-! ### names and constants -/
def tVar (i : Nat) : TE := fun σ H Q => ∃ v, σ[i]? = some (some v) ∧ Q v H
def tC (v : V) : TE := fun _ H Q => Q v H
theorem pe_var {i : Nat} {x : Str} {pos : Pos} (hN : X.N[i]? = some x) (hv : Vis X.env.scope x) (hd : (x == ("__debug__" : Str)) = false := by decide) (hcd : (x == ("__classdict__" : Str)) = false := by decide) : PE X (.Name x pos) (tVar i) := by
  intro pins s σ H Q I h
  obtain ⟨v, e, h⟩ := h
  obtain ⟨m, hn, hl⟩ := I.loc
  obtain ⟨u, r, l⟩ := hl i x v hN e hv
  have fin : EP X pins σ Q u s := ⟨v, H, I, r, h⟩
  rcases l with ⟨hk, hm⟩ | ⟨hk, c, hc, hcell⟩
  · exact wpAny_Name (wpAny_loadName_local I.ok.kind hk hn hm fin) hd
  · rcases hk with hk | hk
    · exact wpAny_Name (wpAny_loadName_cell I.ok.kind hk hc hcell fin) hd
    · exact wpAny_Name (wpAny_loadName_free I.ok.kind hk hc hcell fin hcd) hd
theorem pe_int {i j pos} : PE X (.Constant (.int i) j pos) (tC (.int i)) := fun _ _ _ H _ I h => wpAny_Constant_int ⟨.int i, H, I.tok _, ⟨_, rfl⟩, h⟩
theorem pe_bl {b j pos} : PE X (.Constant (.bool b) j pos) (tC (.bl b)) := fun _ _ _ H _ I h => Constant_bool ⟨.bl b, H, I, rfl, h⟩

/-- a global name of the def -/
def Gl (X : Cx) (x : Str) : Prop := X.env.kindOf x = some .globalImplicit
theorem ld_glob {E : Value → Shared → Prop} {pins : List (Addr × Obj)} {s : Shared} {σ : St} {H : Hp} {x : Str} {u : Value} {pos : Pos} {Q : Value → Shared → Prop} (I : Inv X pins σ H s) (hg : Gl X x) (hm : X.mg x = some u) (h : Q u s)
    (hd : (x == ("__debug__" : Str)) = false := by decide) : wpAny (model X.prog X.w) X.A (eval (.Name x pos) X.env) Q E s :=
  Calls.Name_function_global I.ok.kind hg (Calls.loadGlobal_global (by rw [I.ok.glob]; exact I.mod.glob.keeps I.bk) hm h) hd
theorem ld_blt {E : Value → Shared → Prop} {pins : List (Addr × Obj)} {s : Shared} {σ : St} {H : Hp} {x : Str} {u : Value} {pos : Pos} {Q : Value → Shared → Prop} (I : Inv X pins σ H s) (hg : Gl X x) (hm : X.mg x = none) (hv : bootBuiltins x = some u) (h : Q u s)
    (hn : x ≠ "__name__" := by decide) (hd : (x == ("__debug__" : Str)) = false := by decide) : wpAny (model X.prog X.w) X.A (eval (.Name x pos) X.env) Q E s := by
  obtain ⟨mb, h1, h2⟩ := I.mod.blt
  exact Calls.Name_function_global I.ok.kind hg (Calls.loadGlobal_builtin (by rw [I.ok.glob]; exact I.mod.glob.keeps I.bk) hm (by rw [I.ok.blt]; exact h1.keeps I.bk) ((h2 x hn).trans hv) h) hd
/-- a module's constant, a class, a function, as a value -/
theorem pe_glob {x : Str} {v : V} {u : Value} {pos : Pos} (hg : Gl X x) (hm : X.mg x = some u) (r : RelV v u) (hd : (x == ("__debug__" : Str)) = false := by decide) : PE X (.Name x pos) (tC v) :=
  fun _ _ _ H _ I h => ld_glob I hg hm ⟨v, H, I, r, h⟩ hd

/-! ### arithmetic -/
variable {a b : Expr} {ta tb : TE} {pos : Pos}

/-! ### comparisons -/
def PC (X : Cx) (op : CmpOp) (a b : Expr) (t : TE) : Prop :=
  ∀ (pins : List (Addr × Obj)) (s : Shared) (σ : St) (H : Hp) (Q : VK), Inv X pins σ H s → t σ H Q →
    wpAny (model X.prog X.w) X.A (eval a X.env) (fun v s₁ => wpAny (model X.prog X.w) X.A (eval b X.env) (fun u s₂ => wpAny (model X.prog X.w) X.A (compareOp op v u) (EP X pins σ Q) X.xe s₂) X.xe s₁) X.xe s
/-- a comparison as a value, as a test -/
def tB (t : TE) : TT := fun σ H Q => t σ H fun x H1 => ∃ c, x = .bl c ∧ Q c H1
theorem pt_cmp {op : CmpOp} {t : TE} (h : PC X op a b t) (h1 : behindInMarks op b = false := by first | exact nobehind _ (by decide) (by decide) | rfl) : PT X (.Compare a [op] [b] pos) (tB t) := by
  intro pins s σ H Q I hw
  refine wpAny_isTrue_Compare1 (thn (h pins s σ H _ I hw) fun v s1 h1 => thn h1 fun u s2 h2 => thn h2 fun c s3 ⟨x, H1, I1, r1, q1⟩ => ?_) h1
  obtain ⟨d, rfl, q⟩ := q1
  cases r1
  exact wpAny_truthy_bool ⟨H1, I1, q⟩
/-- an expression whose value is a bool, as a test -/
theorem pt_val {e : Expr} {t : TE} (h : PE X e t) (he : ∀ whole, isTrue e X.env whole = (do let v ← whole; standAt e.pos; holding [v] (truthy v)) := by intro _; rfl) : PT X e (tB t) := by
  intro pins s σ H Q I hw
  refine isTrue_plain (thn (h pins s σ H _ I hw) fun v s1 ⟨x, H1, I1, r1, q1⟩ => ?_) (he _)
  obtain ⟨d, rfl, q⟩ := q1
  cases r1
  exact wpAny_truthy_bool ⟨H1, I1, q⟩

/-! ### and, or, not -/
variable {tA tB' : TT} {rest : List Expr}
def tAnd (t u : TT) : TT := fun σ H Q => t σ H fun c H1 => if c = true then u σ H1 Q else Q false H1
def tOr (t u : TT) : TT := fun σ H Q => t σ H fun c H1 => if c = true then Q true H1 else u σ H1 Q
def tNot (t : TT) : TT := fun σ H Q => t σ H fun c H1 => Q (!c) H1
theorem pw_and1 (ha : PT X a tA) : PW X (.BoolOp .And [a] pos) tA := by
  intro wh pins s σ H Q I h
  refine isTrue_and (thn (ha pins s σ H Q I h) fun c s1 e => ?_)
  cases c with
  | true => exact isTrue_and_nil e
  | false => exact e
theorem pw_or1 (ha : PT X a tA) : PW X (.BoolOp .Or [a] pos) tA := by
  intro wh pins s σ H Q I h
  refine isTrue_or (thn (ha pins s σ H Q I h) fun c s1 e => ?_)
  cases c with
  | false => exact isTrue_or_nil e
  | true => exact e
theorem pw_and (ha : PT X a tA) (hb : PW X (.BoolOp .And (b :: rest) pos) tB') : PW X (.BoolOp .And (a :: b :: rest) pos) (tAnd tA tB') := by
  intro wh pins s σ H Q I h
  refine isTrue_and (thn (ha pins s σ H _ I h) fun c s1 ⟨H1, I1, q1⟩ => ?_)
  cases c with
  | true => exact hb wh pins s1 σ H1 Q I1 q1
  | false => exact ⟨H1, I1, q1⟩
theorem pw_or (ha : PT X a tA) (hb : PW X (.BoolOp .Or (b :: rest) pos) tB') : PW X (.BoolOp .Or (a :: b :: rest) pos) (tOr tA tB') := by
  intro wh pins s σ H Q I h
  refine isTrue_or (thn (ha pins s σ H _ I h) fun c s1 ⟨H1, I1, q1⟩ => ?_)
  cases c with
  | true => exact ⟨H1, I1, q1⟩
  | false => exact hb wh pins s1 σ H1 Q I1 q1
theorem pt_not (ha : PT X a tA) : PT X (.UnaryOp .Not a pos) (tNot tA) := by
  intro pins s σ H Q I h
  exact isTrue_not (ha pins s σ H (fun c H1 => Q (!c) H1) I h)
/-- .. as values (bools) -/
def tAndV (ta tb : TE) : TE := fun σ H Q => ta σ H fun x H1 => ∃ c, x = .bl c ∧ if c = true then tb σ H1 Q else Q (.bl false) H1
theorem pe_one {op} {t : TE} (h : PE X a t) : PE X (.BoolOp op [a] pos) t := fun pins s σ H Q I hw => BoolOp_one (h pins s σ H Q I hw)
theorem pe_and (ha : PE X a ta) (hb : PE X (.BoolOp .And (b :: rest) pos) tb) : PE X (.BoolOp .And (a :: b :: rest) pos) (tAndV ta tb) := by
  intro pins s σ H Q I h
  refine BoolOp_and (thn (ha pins s σ H _ I h) fun v s1 ⟨x, H1, I1, r1, q1⟩ => ?_)
  obtain ⟨c, rfl, q1⟩ := q1
  cases r1
  refine wpAny_truthy_bool ?_
  cases c with
  | true => exact hb pins s1 σ H1 Q I1 q1
  | false => exact ⟨.bl false, H1, I1, rfl, q1⟩
end
end L2

namespace L2
open PySem PySem.Spec PyProof.Rows

/-! ### a list, a tuple that is read: tracked, frozen, or an object of the module -/
def SqL (K : PySem.W.Frag) (H : Hp) (a : Addr) (xs : List V) : Prop :=
  Rd H a (.lst xs) ∨
    ∃ (o : Obj) (its : Array Value) (n : Nat), K.lookup a = some o ∧ o.cls = .type "list" ∧ o.dict = none ∧ o.data = .seq its n ∧ its.size ≤ sizeLine ∧ Vals xs its.toList
def SqT (K : PySem.W.Frag) (H : Hp) (a : Addr) (xs : List V) : Prop :=
  Rd H a (.tup xs) ∨
    ∃ (o : Obj) (its : Array Value) (n : Nat), K.lookup a = some o ∧ o.cls = .type "tuple" ∧ o.data = .seq its n ∧ its.size ≤ sizeLine ∧ Vals xs its.toList
def absV : Value → Option V
  | .none => some .non
  | .bool b => some (.bl b)
  | .int i _ => some (.int i)
  | .str x _ => some (.str x)
  | .bytes b _ => some (.byt b)
  | .float b _ => some (.flt b)
  | .ref a => some (.ref a)
  | .type n => some (.ty n)
  | _ => none
theorem RelV.abs {x : V} {u : Value} (r : RelV x u) : absV u = some x := by
  cases x with
  | non => cases r; rfl
  | bl _ => cases r; rfl
  | int _ => obtain ⟨t, rfl⟩ := r; rfl
  | str _ => obtain ⟨t, rfl⟩ := r; rfl
  | byt _ => obtain ⟨t, rfl⟩ := r; rfl
  | flt _ => obtain ⟨t, rfl⟩ := r; rfl
  | ref _ => cases r; rfl
  | ty _ => cases r; rfl
theorem RelV.inj {x y : V} {u : Value} (r : RelV x u) (q : RelV y u) : x = y := Option.some.inj (r.abs.symm.trans q.abs)
theorem Vals.inj : ∀ {xs ys : List V} {us : List Value}, Vals xs us → Vals ys us → xs = ys
  | _, _, _, .nil, .nil => rfl
  | _, _, _, .cons r t, .cons r' t' => by rw [r.inj r', Vals.inj t t']
section
variable {X : Cx} {pins : List (Addr × Obj)} {σ : St} {H : Hp} {s : Shared} {a : Addr} {xs ys : List V}
theorem SqL.of {K : PySem.W.Frag} (h : H a = some (.lst xs)) : SqL K H a xs := .inl (.inl h)
theorem SqT.of {K : PySem.W.Frag} (h : H a = some (.tup xs)) : SqT K H a xs := .inl (.inl h)
theorem Inv.list (I : Inv X pins σ H s) (h : SqL X.K H a xs) : ∃ its : List Value, Vals xs its ∧ PlainL s.heap a its.toArray ∧ xs.length ≤ sizeLine := by
  rcases h with h | ⟨o, its, n, hk, hc, hd, hs, hz, r⟩
  · obtain ⟨z, its, n, r, e⟩ := h.ok I.hok
    exact ⟨its, r, ⟨_, n, e, rfl, rfl, rfl⟩, z⟩
  · refine ⟨its.toList, r, ⟨o, n, I.kIn a o hk, hc, hd, by simpa using hs⟩, ?_⟩
    have e := r.length
    simp only [Array.length_toList] at e
    omega
theorem Inv.tuple (I : Inv X pins σ H s) (h : SqT X.K H a xs) : ∃ its : List Value, Vals xs its ∧ IsTup s.heap a its.toArray ∧ xs.length ≤ sizeLine := by
  rcases h with h | ⟨o, its, n, hk, hc, hs, hz, r⟩
  · obtain ⟨z, its, r, p⟩ := h.ok I.hok
    exact ⟨its, r, p, z⟩
  · refine ⟨its.toList, r, ⟨o, I.kIn a o hk, hc, n, by simpa using hs⟩, ?_⟩
    have e := r.length
    simp only [Array.length_toList] at e
    omega
theorem Inv.list_inj (I : Inv X pins σ H s) (h : SqL X.K H a xs) (h' : SqL X.K H a ys) : xs = ys := by
  obtain ⟨its, r, ⟨o, n, e, _, _, d⟩, _⟩ := I.list h
  obtain ⟨its', r', ⟨o', n', e', _, _, d'⟩, _⟩ := I.list h'
  rw [e] at e'; cases e'
  rw [d] at d'
  injection d' with d1 _
  have : its = its' := by simpa using congrArg Array.toList d1
  subst this
  exact r.inj r'
end

/-! ### another wish about exceptions -/
abbrev Cx.wish (X : Cx) (E : Value → Shared → Prop) : Cx := { X with xe := E }
/-- no exception leaves -/
abbrev Cx.nox (X : Cx) : Cx := X.wish fun _ _ => False
theorem Cx.Ok.wish {X : Cx} (ok : X.Ok) (E : Value → Shared → Prop) : (X.wish E).Ok :=
  ⟨ok.mod, ok.kind, ok.glob, ok.blt, ok.above, ok.inj, ok.has, ok.cab, ok.hd, ok.frames, ok.stk, ok.exf, ok.bs, ok.bsz, ok.noex, ok.exfs, ok.funs, ok.frf⟩
theorem Cx.Ok.unwish {X : Cx} {E : Value → Shared → Prop} (ok : (X.wish E).Ok) : X.Ok :=
  ⟨ok.mod, ok.kind, ok.glob, ok.blt, ok.above, ok.inj, ok.has, ok.cab, ok.hd, ok.frames, ok.stk, ok.exf, ok.bs, ok.bsz, ok.noex, ok.exfs, ok.funs, ok.frf⟩
section
variable {X : Cx} {pins : List (Addr × Obj)} {σ : St} {H : Hp} {s : Shared} {E : Value → Shared → Prop}
theorem Inv.wish (I : Inv X pins σ H s) (E : Value → Shared → Prop) : Inv (X.wish E) pins σ H s := ⟨I.ok.wish E, I.os, I.bare, I.base, I.loc, I.cell, I.free, I.freeC, I.pin, I.hok, I.len⟩
theorem Inv.unwish (I : Inv (X.wish E) pins σ H s) : Inv X pins σ H s := ⟨I.ok.unwish, I.os, I.bare, I.base, I.loc, I.cell, I.free, I.freeC, I.pin, I.hok, I.len⟩
theorem SP.unwish {D : Ends} {f : Flow} {s' : Shared} (h : SP (X.wish E) pins D f s') : SP X pins D f s' := by
  cases f with
  | next => obtain ⟨σ', H', I, q⟩ := h; exact ⟨σ', H', I.unwish, q⟩
  | brk => obtain ⟨σ', H', I, q⟩ := h; exact ⟨σ', H', I.unwish, q⟩
  | cont => obtain ⟨σ', H', I, q⟩ := h; exact ⟨σ', H', I.unwish, q⟩
  | ret u => obtain ⟨v, σ', H', I, r, q⟩ := h; exact ⟨v, σ', H', I.unwish, r, q⟩
theorem PSs.nox {st : List Stmt} {t : TS} (h : PSs X.nox st t) : PSs X st t := fun pins s σ H D I hw =>
  wpAny_mono (h pins s σ H D (I.wish _) hw) (fun _ _ q => q.unwish) fun _ _ z => False.elim z
end

/-! ### blocks and small statements -/
section
variable {X : Cx} {st : Stmt} {rest : List Stmt} {t u : TS} {e : Expr} {te : TE} {pos : Pos}
def tNext : TS := fun D σ H => D.nx σ H
def tSeq (t u : TS) : TS := fun D σ H => t { D with nx := u D } σ H
theorem pss_nil : PSs X [] tNext := fun _ _ σ H _ I h => wpAny_execs_nil ⟨σ, H, I, h⟩
theorem pss_cons (h1 : PS X st t) (h2 : PSs X rest u) : PSs X (st :: rest) (tSeq t u) := by
  intro pins s σ H D I h
  refine wpAny_execs_cons (thn (h1 pins s σ H { D with nx := u D } I h) fun f s1 q => ?_)
  cases f with
  | next =>
    obtain ⟨σ', H', I', q⟩ := q
    exact h2 pins s1 σ' H' D I' q
  | ret v => exact q
  | brk => exact q
  | cont => exact q
theorem pss_one (h1 : PS X st t) : PSs X [st] t := by
  intro pins s σ H D I h
  refine wpAny_execs_cons (thn (h1 pins s σ H D I h) fun f s1 q => ?_)
  cases f with
  | next => exact wpAny_execs_nil q
  | ret v => exact q
  | brk => exact q
  | cont => exact q
/-- in a def's body nothing is shown -/
theorem Inv.quiet {pins : List (Addr × Obj)} {σ : St} {H : Hp} {s : Shared} (I : Inv X pins σ H s) : interactive X.env = false := by simp [interactive, I.ok.kind]
/-- an expression whose value is dropped -/
def tDrop (te : TE) : TS := fun D σ H => te σ H fun _ H1 => D.nx σ H1
theorem ps_expr (he : PE X e te) (hs : swapsWith e none pos.line X.env = pure false := by rfl) : PS X (.Expr e pos) (tDrop te) := by
  intro pins s σ H D I h
  exact wpAny_Expr_any (thn (he pins s σ H _ I h) fun v s1 ⟨x, H1, I1, r1, q1⟩ => ⟨σ, H1, I1, q1⟩) I.quiet hs
def tRet (te : TE) : TS := fun D σ H => te σ H D.rt
theorem ps_ret (he : PE X e te) : PS X (.Return (some e) pos) (tRet te) := by
  intro pins s σ H D I h
  exact wpAny_Return_some (thn (he pins s σ H _ I h) fun v s1 ⟨x, H1, I1, r1, q1⟩ => ⟨x, σ, H1, I1, r1, q1⟩)
def tIfS (c : TT) (t u : TS) : TS := fun D σ H => c σ H fun b H1 => if b = true then t D σ H1 else u D σ H1
theorem ps_if {c : Expr} {a b : List Stmt} {tc : TT} (hc : PT X c tc) (ha : PSs X a t) (hb : PSs X b u) : PS X (.If c a b pos) (tIfS tc t u) := by
  intro pins s σ H D I h
  refine wpAny_If (thn (hc pins s σ H _ I h) fun d s1 ⟨H1, I1, q1⟩ => ?_)
  cases d with
  | true => exact ha pins s1 σ H1 D I1 q1
  | false => exact hb pins s1 σ H1 D I1 q1
end

/-! ### targets -/
abbrev TG := V → St → Hp → (St → Hp → Prop) → Prop
abbrev TGs := List V → St → Hp → (St → Hp → Prop) → Prop
def PG (X : Cx) (target : Expr) (t : TG) : Prop :=
  ∀ (pins : List (Addr × Obj)) (s : Shared) (σ : St) (H : Hp) (v : V) (u : Value) (Q : St → Hp → Prop), Inv X pins σ H s → RelV v u → t v σ H Q →
    wpAny (model X.prog X.w) X.A (assign target X.env u) (fun _ s' => ∃ σ' H', Inv X pins σ' H' s' ∧ Q σ' H') X.xe s
/-- several targets, one after another -/
def PGs (X : Cx) (ts : List Expr) (t : TGs) : Prop :=
  ∀ (pins : List (Addr × Obj)) (s : Shared) (σ : St) (H : Hp) (vs : List V) (us : List Value) (Q : St → Hp → Prop), Inv X pins σ H s → Vals vs us → t vs σ H Q →
    wpAny (model X.prog X.w) X.A (assignInOrder ((assignEach ts X.env).map (·.2)) us) (fun _ s' => ∃ σ' H', Inv X pins σ' H' s' ∧ Q σ' H') X.xe s
/-- a op= b, by values -/
abbrev TIp := V → V → Hp → VK → Prop
def PIp (X : Cx) (op : Operator) (t : TIp) : Prop :=
  ∀ (pins : List (Addr × Obj)) (s : Shared) (σ : St) (H : Hp) (x y : V) (v u : Value) (Q : VK), Inv X pins σ H s → RelV x v → RelV y u → t x y H Q →
    wpAny (model X.prog X.w) X.A (inplaceOp op v u) (EP X pins σ Q) X.xe s
section
variable {X : Cx} {pos : Pos}
def gName (i : Nat) : TG := fun v σ H Q => Q (σ.set i (some v)) H
theorem pg_name {i : Nat} {x : Str} (hN : X.N.Nodup) (hi : X.N[i]? = some x) (hx : Loc X.env.scope x) (hf : X.fn x = true ∨ X.env.scope.names.lookup x = some .local := by first | exact .inl rfl | exact .inr rfl | assumption) : PG X (.Name x pos) (gName i) := by
  intro pins s σ H v u Q I r h
  exact wpAny_assign_Name (store_ok I hN hi hx r (fun s' I' => ⟨_, H, I', h⟩) hf)
def gNil : TGs := fun vs σ H Q => vs = [] ∧ Q σ H
def gCons (t : TG) (u : TGs) : TGs := fun vs σ H Q => ∃ v r, vs = v :: r ∧ t v σ H fun σ' H' => u r σ' H' Q
theorem pgs_nil : PGs X [] gNil := by
  intro pins s σ H vs us Q I r h
  obtain ⟨e, h⟩ := h
  subst e
  cases r
  exact assignInOrder_nil ⟨σ, H, I, h⟩
theorem pgs_cons {e : Expr} {es : List Expr} {t : TG} {u : TGs} (h1 : PG X e t) (h2 : PGs X es u)
    (hs : (assignEach (e :: es) X.env).map (·.2) = assign e X.env :: (assignEach es X.env).map (·.2) := by rfl) : PGs X (e :: es) (gCons t u) := by
  intro pins s σ H vs us Q I r h
  obtain ⟨v, vr, e1, h⟩ := h
  subst e1
  cases r with
  | cons r rr =>
    rw [hs]
    refine assignInOrder_cons (thn (h1 pins s σ H _ _ _ I r h) fun _ s1 ⟨σ1, H1, I1, q1⟩ => ?_)
    exact h2 pins s1 σ1 H1 _ _ Q I1 rr q1
/-- (a, b, ..) = a tuple of that length -/
def gTup (K : PySem.W.Frag) (n : Nat) (t : TGs) : TG := fun v σ H Q => ∃ a xs, v = .ref a ∧ SqT K H a xs ∧ xs.length = n ∧ t xs σ H Q
theorem pg_tup {es : List Expr} {k : Nat} {t : TGs} {n : Nat} (hc : X.calm = true) (h : PGs X es t)
    (hn : (assignEach es X.env).length = n := by rfl) (hst : (assignEach es X.env).findIdx? (·.1) = none := by rfl) : PG X (.Tuple es k pos) (gTup X.K n t) := by
  intro pins s σ H v u Q I r hw
  obtain ⟨a, xs, e1, hq, hl, hw⟩ := hw
  subst e1
  cases r
  obtain ⟨its, rv, ht, hz⟩ := I.tuple hq
  refine assign_Tuple_tuple (I.ok.hd hc) ht (by simp [hn, ← hl, rv.length]) hst fun h' hx => ?_
  have I1 : Inv X pins σ H { s with heap := h' } := I.kept (t' := s.toks) fun b o e => hx b o (Nat.ne_of_lt (Heap.lt_size e)) e
  exact h pins _ σ H xs _ Q I1 (by simpa using rv) hw
/-- target = value -/
def tAsg (te : TE) (g : TG) : TS := fun D σ H => te σ H fun x H1 => g x σ H1 D.nx
/-- name = value -/
theorem ps_set {i : Nat} {x : Str} {e : Expr} {te : TE} {pos' : Pos} (hN : X.N.Nodup) (hi : X.N[i]? = some x) (hx : Loc X.env.scope x) (he : PE X e te) (hs : swapsWith e (some (.Name x pos')) pos.line X.env = pure false := by rfl) (hf : X.fn x = true ∨ X.env.scope.names.lookup x = some .local := by first | exact .inl rfl | exact .inr rfl | assumption) :
    PS X (.Assign [.Name x pos'] e pos) (tAsg te (gName i)) := by
  intro pins s σ H D I h
  refine wpAny_Assign_Name (thn (he pins s σ H _ I h) fun v s1 ⟨y, H1, I1, r1, q1⟩ => ?_) hs
  exact store_ok I1 hN hi hx r1 (fun s2 I2 => ⟨_, H1, I2, q1⟩) hf
/-- name op= e -/
def tAug (i : Nat) (te : TE) (ti : TIp) : TS := fun D σ H => ∃ x, σ[i]? = some (some x) ∧ te σ H fun y H1 => ti x y H1 fun z H2 => D.nx (σ.set i (some z)) H2
theorem ps_aug {i : Nat} {x : Str} {e : Expr} {te : TE} {op : Operator} {ti : TIp} {pos' : Pos} (hN : X.N.Nodup) (hi : X.N[i]? = some x) (hx : Loc X.env.scope x) (he : PE X e te) (ho : PIp X op ti) (hf : X.fn x = true ∨ X.env.scope.names.lookup x = some .local := by first | exact .inl rfl | exact .inr rfl | assumption) :
    PS X (.AugAssign (.Name x pos') op e pos) (tAug i te ti) := by
  intro pins s σ H D I h
  obtain ⟨v, e1, h⟩ := h
  obtain ⟨m, hn, hl⟩ := I.loc
  have vis : Vis X.env.scope x := by rcases hx with k | k; exact .inl k; exact .inr (.inl k)
  obtain ⟨u, r, l⟩ := hl i x v hi e1 vis
  refine wpAny_AugAssign_Name ?_
  have go : wpAny (model X.prog X.w) X.A (eval e X.env) (fun w s₂ => wpAny (model X.prog X.w) X.A (inplaceOp op u w) (fun r s₃ => wpAny (model X.prog X.w) X.A (storeName X.env x r) (fun _ => SP X pins D .next) X.xe s₃) X.xe s₂) X.xe s := by
    refine thn (he pins s σ H _ I h) fun w s1 ⟨y, H1, I1, r1, q1⟩ => ?_
    refine thn (ho pins s1 σ H1 v y u w _ I1 r r1 q1) fun z s2 ⟨zv, H2, I2, r2, q2⟩ => ?_
    exact store_ok I2 hN hi hx r2 (fun s3 I3 => ⟨_, H2, I3, q2⟩) hf
  rcases l with ⟨hk, hm⟩ | ⟨hk, c, hc, hcell⟩
  · exact wpAny_loadName_local I.ok.kind hk hn hm go
  · rcases hk with hk | hk
    · exact wpAny_loadName_cell I.ok.kind hk hc hcell go
    · rcases hx with k | k
      · have : X.env.scope.names.lookup x = some .free := hk
        rw [k] at this; cases this
      · have : X.env.scope.names.lookup x = some .free := hk
        rw [k] at this; cases this
/-- ints -/
def ipI (f : Int → Int → Int) : TIp := fun x y H Q => ∃ i j, x = .int i ∧ y = .int j ∧ Q (.int (f i j)) H
theorem ip_add : PIp X .Add (ipI fun i j => i + j) := by
  intro pins s σ H x y v u Q I r1 r2 h
  obtain ⟨i, j, e1, e2, q⟩ := h
  subst e1; subst e2
  obtain ⟨t, rfl⟩ := r1
  obtain ⟨t', rfl⟩ := r2
  exact iadd_int ⟨.int _, H, I.tok _, ⟨_, rfl⟩, q⟩
theorem ip_sub : PIp X .Sub (ipI fun i j => i - j) := by
  intro pins s σ H x y v u Q I r1 r2 h
  obtain ⟨i, j, e1, e2, q⟩ := h
  subst e1; subst e2
  obtain ⟨t, rfl⟩ := r1
  obtain ⟨t', rfl⟩ := r2
  exact isub_int ⟨.int _, H, I.tok _, ⟨_, rfl⟩, q⟩
end

/-! ### while -/
section
variable {X : Cx} {pos : Pos}
/-- the invariant W with its measure -/
def tWhile (c : TT) (tb : TS) : TS := fun D σ H => ∃ W : Nat → St → Hp → Prop, (∃ m, W m σ H) ∧ ∀ m σ H, W m σ H →
  c σ H fun b H1 => if b = true then ∃ N : St → Hp → Prop, (∀ σ' H', N σ' H' → ∃ m', m' < m ∧ W m' σ' H') ∧ tb { D with nx := N, ct := N, bk := D.nx } σ H1 else D.nx σ H1
theorem ps_while {c : Expr} {body : List Stmt} {tc : TT} {tb : TS} (hp : PassesOwn (model X.prog X.w) X.A X.env X.xe) (hc : PT X c tc) (hb : PSs X body tb) : PS X (.While c body [] pos) (tWhile tc tb) := by
  intro pins s σ H D I h
  obtain ⟨W, ⟨m0, w0⟩, turn⟩ := h
  refine wpAny_While (codeAny_whileLoop (fun n s' => ∃ σ' H', Inv X pins σ' H' s' ∧ W n σ' H') ?_ m0 ⟨σ, H, I, w0⟩)
  rintro n s1 ⟨σ1, H1, I1, w1⟩
  refine wpAny_passesOwn hp (thn (hc pins s1 σ1 H1 _ I1 (turn n σ1 H1 w1)) fun b s2 ⟨H2, I2, q2⟩ => ?_)
  cases b with
  | true =>
    obtain ⟨N, hN, q2⟩ := q2
    rw [if_pos rfl]
    refine wpAny_passesOwn hp (thn (hb pins s2 σ1 H2 _ I2 q2) fun f s3 q3 => ?_)
    cases f with
    | next =>
      obtain ⟨σ3, H3, I3, n3⟩ := q3
      obtain ⟨m', hm, w3⟩ := hN σ3 H3 n3
      exact ⟨m', hm, σ3, H3, I3, w3⟩
    | cont =>
      obtain ⟨σ3, H3, I3, n3⟩ := q3
      obtain ⟨m', hm, w3⟩ := hN σ3 H3 n3
      exact ⟨m', hm, σ3, H3, I3, w3⟩
    | brk => exact q3
    | ret v => exact q3
  | false =>
    rw [if_neg Bool.false_ne_true]
    exact wpAny_execs_nil ⟨σ1, H2, I2, q2⟩
end

/-! ### what a loop or a comprehension walks -/
/-- at turn i: it yields x (the heap may grow), or it stops -/
structure It where
  go : Nat → Hp → Prop
  yld : Nat → Hp → V → Hp → Prop
  stop : Nat → Hp → Prop
/-- the iterator's own objects may turn: they are not the frame's, not pinned, younger than the entry (or a comprehension's own) -/
def FpOk (X : Cx) (pins : List (Addr × Obj)) (H : Hp) (b : Addr) : Prop :=
  H b = none ∧ b ≠ X.env.locals ∧ b ∉ X.fs ∧ (b ∈ X.ex ∨ X.s_0.heap.objs.size ≤ b) ∧ (∀ x c, X.env.cells.lookup x = some c → c ≠ b) ∧ ∀ p ∈ X.pn ++ pins, p.1 ≠ b
theorem Inv.fpOk {X : Cx} {pins : List (Addr × Obj)} {σ : St} {H H' : Hp} {s : Shared} {b : Addr} (I : Inv X pins σ H s) (hb : s.heap.objs.size ≤ b) (hn : H' b = none) : FpOk X pins H' b := by
  refine ⟨hn, Nat.ne_of_gt (Nat.lt_of_lt_of_le I.lt hb), I.nofs hb, .inr (Nat.le_trans I.sz hb), fun x c e z => ?_, fun p hp z => ?_⟩
  · obtain ⟨v, q⟩ := I.cell x c e
    exact absurd (Nat.lt_of_lt_of_le q.lt (by rw [z]; exact hb)) (Nat.lt_irrefl _)
  · exact absurd (Nat.lt_of_lt_of_le (Heap.lt_size (I.pin p hp).1) (by rw [z]; exact hb)) (Nat.lt_irrefl _)
structure Turn (P : Program) (w : World) (K : PySem.W.Frag) (tg : Expr) (J : It) (fp : List Addr) (it : Addr) (tn : Nat → Heap → Prop) : Prop where
  mem : it ∈ fp
  obj : ∀ i h, tn i h → ∀ b ∈ fp, ∃ o, h.get? b = some o ∧ ∀ v, o.data ≠ .cell v
  keep : ∀ i h h', tn i h → (∀ b ∈ fp, ∀ o, h.get? b = some o → h'.get? b = some o) → tn i h'
  item : ∀ (X : Cx), X.prog = P → X.w = w → X.K = K → X.calm = true → ∀ (i : Nat) (pins : List (Addr × Obj)) (s : Shared) (σ : St) (H : Hp) (E : Value → Shared → Prop), Inv X pins σ H s → (∀ b ∈ fp, FpOk X pins H b) → tn i s.heap → J.go i H →
    wpAny (model P w) X.A (pyNext (.ref it)) (fun r s1 => ∃ u, r = some u ∧
      wpAny (model P w) X.A (letOwnedTupleGo tg (.ref it) u) (fun _ s2 => ∃ x H', Inv X pins σ H' s2 ∧ RelV x u ∧ J.yld i H x H' ∧ tn (i + 1) s2.heap ∧ ∀ b ∈ fp, H' b = none) E s1) E s
  done : ∀ (X : Cx), X.prog = P → X.w = w → X.K = K → X.calm = true → ∀ (i : Nat) (pins : List (Addr × Obj)) (s : Shared) (σ : St) (H : Hp) (E : Value → Shared → Prop), Inv X pins σ H s → (∀ b ∈ fp, FpOk X pins H b) → tn i s.heap → J.stop i H →
    wpAny (model P w) X.A (pyNext (.ref it)) (fun r s1 => r = none ∧ Inv X pins σ H s1) E s
  self : ∀ (A : Around) (i : Nat) (s : Shared) (Q : Value → Shared → Prop) (E : Value → Shared → Prop), tn i s.heap → Q (.ref it) s → wpAny (model P w) A (pyIter (.ref it)) Q E s
abbrev TI := St → Hp → (It → Hp → Prop) → Prop
/-- an iterator has come -/
def PIE (X : Cx) (pins : List (Addr × Obj)) (σ : St) (tg : Expr) (R : It → Hp → Prop) (itv : Value) (s2 : Shared) : Prop :=
  ∃ (it : Addr) (fp : List Addr) (tn : Nat → Heap → Prop) (J : It) (H' : Hp), itv = .ref it ∧ Inv X pins σ H' s2 ∧ Turn X.prog X.w X.K tg J fp it tn ∧ tn 0 s2.heap ∧ (∀ b ∈ fp, FpOk X pins H' b) ∧ R J H'
def PI (X : Cx) (tg iter : Expr) (wi : TI) : Prop :=
  ∀ (pins : List (Addr × Obj)) (s : Shared) (σ : St) (H : Hp) (R : It → Hp → Prop), Inv X pins σ H s → wi σ H R →
    wpAny (model X.prog X.w) X.A (eval iter X.env) (fun v s1 => wpAny (model X.prog X.w) X.A (pyIter v) (PIE X pins σ tg R) X.xe s1) X.xe s

/-- the step ahead of the store is nothing for an iterator that keeps no tuple -/
theorem go_of {M : Model} {A : Around} {E : Value → Shared → Prop} {s : Shared} {tg : Expr} {it : Addr} {u : Value} {o : Obj} {n : String} {vs : Array Value} {Q : Unit → Shared → Prop} (ho : s.heap.get? it = some o) (hc : o.cls = .type n) (hd : o.data = .fields vs)
    (hn : ["enumerate", "zip", "dict_itemiterator", "dict_reverseitemiterator", "odict_iterator", "itertools.zip_longest", "itertools.pairwise"].contains n = false) (hQ : Q () s) : wpAny M A (letOwnedTupleGo tg (.ref it) u) Q E s := by
  unfold letOwnedTupleGo
  cases tg <;> first
    | exact wpAny_pure hQ
    | (cases u <;> first
        | exact wpAny_pure hQ
        | (refine wpAny_bind (wpAny_load ho ?_)
           rw [hc, hd]
           show wpAny M A (if (["enumerate", "zip", "dict_itemiterator", "dict_reverseitemiterator", "odict_iterator", "itertools.zip_longest", "itertools.pairwise"].contains n && vs[0]? == some (rawInt _)) = true then _ else _) Q E s
           rw [if_neg (by intro h; rw [hn, Bool.false_and] at h; cases h)]
           exact wpAny_pure hQ))

/-- the list at a, as it stands at each turn (a loop may append to it) -/
def Itl (K : PySem.W.Frag) (a : Addr) : It :=
  ⟨fun i H => ∃ xs x, SqL K H a xs ∧ xs[i]? = some x, fun i H x H' => H' = H ∧ ∀ xs, SqL K H a xs → xs[i]? = some x, fun i H => ∃ xs, SqL K H a xs ∧ xs.length ≤ i⟩
/-- lo, lo + 1, .. (n of them) -/
def Itr (lo : Int) (n : Nat) : It := ⟨fun i _ => i < n, fun i H x H' => H' = H ∧ x = .int (lo + i), fun i _ => n ≤ i⟩
theorem turn_list {P : Program} {w : World} {K : PySem.W.Frag} {tg : Expr} (a it : Addr) : Turn P w K tg (Itl K a) [it] it (fun i h => h.IsListIter it a i) where
  mem := by simp
  obj := fun i h st b hb => by
    have e : b = it := by simpa using hb
    subst e
    obtain ⟨o, e, c, d⟩ := st
    exact ⟨o, e, fun v z => by rw [d] at z; cases z⟩
  keep := fun i h h' st k => st.at fun o e => k it (by simp) o e
  item := by
    intro X hP hw hK hc i pins s σ H E I hf st hg
    subst hP hw hK
    obtain ⟨xs, x, hq, hx⟩ := hg
    obtain ⟨its, rv, p, hz⟩ := I.list hq
    obtain ⟨u, hu, ru⟩ := rv.get hx
    obtain ⟨f0, f1, f2, f3, f4, f5⟩ := hf it (by simp)
    refine wpAny_pyNext_list_item st p.isList (x := u) (by simpa using hu) fun h' st' sb => ?_
    have I1 : Inv X pins σ H { s with heap := h' } := I.turned (t' := s.toks) (fun b o hb e => (sb.2 b hb).trans e) f0 f1 f3 f4 f5
    obtain ⟨o, e, c, d⟩ := id st'
    exact ⟨u, rfl, go_of (s := { s with heap := h' }) e c d (by decide) ⟨x, H, I1, ru, ⟨rfl, fun ys hy => by rw [I.list_inj hy hq]; exact hx⟩, st', fun b hb => (hf b hb).1⟩⟩
  done := by
    intro X hP hw hK hc i pins s σ H E I hf st hg
    subst hP hw hK
    obtain ⟨xs, hq, hx⟩ := hg
    obtain ⟨its, rv, p, hz⟩ := I.list hq
    obtain ⟨f0, f1, f2, f3, f4, f5⟩ := hf it (by simp)
    have hl := rv.length
    exact wpAny_pyNext_list_end (I.ok.hd hc) st p.isList (by simp; omega) fun h' eb => ⟨rfl, I.turned (t' := s.toks) (fun b o hb e => eb b o hb e) f0 f1 f3 f4 f5⟩
  self := fun _ _ _ _ _ st h => wpAny_pyIter_listiter st h
theorem turn_range {P : Program} {w : World} {K : PySem.W.Frag} {tg : Expr} (it : Addr) (lo : Int) (n : Nat) : Turn P w K tg (Itr lo n) [it] it (fun i h => IsRangeIter h it (lo + (i : Nat) * 1) ((n : Int) - (i : Nat)) 1) where
  mem := by simp
  obj := fun i h st b hb => by
    have e : b = it := by simpa using hb
    subst e
    exact ⟨_, st, fun v z => by
      have z' : Data.fields _ = Data.cell v := z
      cases z'⟩
  keep := fun i h h' st k => k it (by simp) _ st
  item := by
    intro X hP hw hK hc i pins s σ H E I hf st hg
    subst hP hw hK
    obtain ⟨f0, f1, f2, f3, f4, f5⟩ := hf it (by simp)
    have W := Walks.range (prog := X.prog) (w := X.w) (I.ok.hd hc) it lo 1 n
    refine W.item i s _ _ hg st fun v h' tk hv st' kk => ?_
    obtain ⟨t, rfl⟩ := hv
    have I1 : Inv X pins σ H { s with heap := h', toks := tk } := I.turned (fun b o hb e => kk b o (by simpa using hb) e) f0 f1 f3 f4 f5
    refine ⟨_, rfl, go_of (s := { s with heap := h', toks := tk }) (n := "range_iterator") st' rfl rfl (by decide) ⟨.int (lo + i), H, I1, ⟨t, ?_⟩, ⟨rfl, rfl⟩, st', fun b hb => (hf b hb).1⟩⟩
    rw [Int.mul_one]
  done := by
    intro X hP hw hK hc i pins s σ H E I hf st hg
    subst hP hw hK
    obtain ⟨f0, f1, f2, f3, f4, f5⟩ := hf it (by simp)
    exact wpAny_pyNext_range_end (I.ok.hd hc) st (by have : n ≤ i := hg; omega) fun h' eb => ⟨rfl, I.turned (t' := s.toks) (fun b o hb e => eb b o hb e) f0 f1 f3 f4 f5⟩
  self := fun _ _ _ _ _ st h => wpAny_pyIter_rangeiter st h
end L2

namespace L2
open PySem PySem.Spec PyProof.Rows
section
variable {X : Cx} {tg : Expr}
def iList (K : PySem.W.Frag) (tl : TE) : TI := fun σ H R => tl σ H fun x H1 => ∃ a, x = .ref a ∧ (∃ xs, SqL K H1 a xs) ∧ R (Itl K a) H1
theorem pi_list {l : Expr} {tl : TE} (hl : PE X l tl) : PI X tg l (iList X.K tl) := by
  intro pins s σ H R I h
  refine thn (hl pins s σ H _ I h) fun v s1 ⟨x, H1, I1, r1, q1⟩ => ?_
  obtain ⟨a, e, ⟨xs, hq⟩, q⟩ := q1
  subst e
  cases r1
  obtain ⟨its, rv, p, hz⟩ := I1.list hq
  refine wpAny_pyIter_list p.isList ?_
  refine ⟨s1.heap.objs.size, [s1.heap.objs.size], _, _, H1, rfl, I1.kept (t' := s1.toks) fun b o e => Heap.get?_push_of_some _ e, turn_list a _, ⟨_, Heap.get?_push_size _ rfl, rfl, rfl⟩, fun b hb => ?_, q⟩
  have e : b = s1.heap.objs.size := by simpa using hb
  subst e
  exact I1.fpOk (Nat.le_refl _) (I1.hok.fresh (Nat.le_refl _))
/-- a range object just made, walked -/
theorem range_it {pins : List (Addr × Obj)} {σ : St} {H : Hp} {s : Shared} {R : It → Hp → Prop} {E : Value → Shared → Prop} {lo hi : Int} {t u v : Tok} {tk : Nat} (I : Inv X pins σ H s) (h1 : -(2 ^ 62) ≤ lo) (h2 : lo < 2 ^ 62) (h3 : -(2 ^ 62) ≤ hi) (h4 : hi < 2 ^ 62)
    (q : R (Itr lo (hi - lo).toNat) H) : wpAny (model X.prog X.w) X.A (pyIter (.ref s.heap.objs.size)) (PIE X pins σ tg R) E { s with heap := s.heap.push { cls := .type "range", data := .fields #[.int lo t, .int hi u, .int 1 v] }, toks := tk } := by
  refine wpAny_pyIter_range (IsRange.new ..) (small_one h1 h2 h3 h4) ?_
  have I1 : Inv X pins σ H { s with heap := s.heap.push { cls := .type "range", data := .fields #[.int lo t, .int hi u, .int 1 v] }, toks := tk } := I.kept fun b o e => Heap.get?_push_of_some _ e
  refine ⟨(s.heap.push { cls := .type "range", data := .fields #[.int lo t, .int hi u, .int 1 v] }).objs.size, [(s.heap.push { cls := .type "range", data := .fields #[.int lo t, .int hi u, .int 1 v] }).objs.size], _, _, H, rfl,
    I1.kept (t' := tk) fun b o e => Heap.get?_push_of_some _ e, turn_range _ lo (hi - lo).toNat, ?_, fun b hb => ?_, q⟩
  · have e1 : lo + ((0 : Nat) : Int) * 1 = lo := by simp
    have e2 : (((hi - lo).toNat : Nat) : Int) - ((0 : Nat) : Int) = Builtin.Range.rangeSize lo hi 1 := by rw [rangeSize_one]; split <;> omega
    show IsRangeIter _ _ (lo + ((0 : Nat) : Int) * 1) ((((hi - lo).toNat : Nat) : Int) - ((0 : Nat) : Int)) 1
    rw [e1, e2]
    exact Heap.get?_push_size _ rfl
  · have e : b = (s.heap.push { cls := .type "range", data := .fields #[.int lo t, .int hi u, .int 1 v] }).objs.size := by simpa using hb
    subst e
    exact I1.fpOk (Nat.le_refl _) (I1.hok.fresh (Nat.le_refl _))
def iRng1 (ta : TA) : TI := fun σ H R => ta σ H fun vs H1 => ∃ j : Int, vs = [.int j] ∧ -(2 ^ 62) ≤ j ∧ j < 2 ^ 62 ∧ R (Itr 0 j.toNat) H1
def iRng2 (ta : TA) : TI := fun σ H R => ta σ H fun vs H1 => ∃ i j : Int, vs = [.int i, .int j] ∧ (-(2 ^ 62) ≤ i ∧ i < 2 ^ 62 ∧ -(2 ^ 62) ≤ j ∧ j < 2 ^ 62) ∧ R (Itr i (j - i).toNat) H1
theorem pi_range1 {a : Expr} {ta : TA} {p pos : Pos} (hg : Gl X "range") (hm : X.mg "range" = none) (ha : PA X [a] ta) (hs : starEach [a] X.env = [(false, eval a X.env)] := by rfl) : PI X tg (.Call (.Name "range" p) [a] [] pos) (iRng1 ta) := by
  intro pins s σ H R I h
  refine Call_ (ld_blt I hg hm boot_range (PyProof.Rows.callWith_type1 (thn (ha pos pins s σ H _ I h) fun us s1 ⟨vs, H1, I1, r1, q1⟩ => ?_) hs rfl))
  obtain ⟨j, e, q1, q2, q⟩ := q1
  subst e
  cases r1 with
  | cons r rr =>
    cases rr
    obtain ⟨t, rfl⟩ := r
    exact call_range_1 (range_it I1 (by omega) (by omega) q1 q2 (by simpa using q))
theorem pi_range2 {a b : Expr} {ta : TA} {p pos : Pos} (hg : Gl X "range") (hm : X.mg "range" = none) (ha : PA X [a, b] ta) (hs : starEach [a, b] X.env = [(false, eval a X.env), (false, eval b X.env)] := by rfl) (hs2 : starEach [b] X.env = [(false, eval b X.env)] := by rfl) :
    PI X tg (.Call (.Name "range" p) [a, b] [] pos) (iRng2 ta) := by
  intro pins s σ H R I h
  refine Call_ (ld_blt I hg hm boot_range (PyProof.Rows.callWith_type1 (thn (ha pos pins s σ H _ I h) fun us s1 ⟨vs, H1, I1, r1, q1⟩ => ?_) (by rw [hs, hs2]) (by rw [hs2]; rfl)))
  obtain ⟨i, j, e, ⟨q1, q2, q3, q4⟩, q⟩ := q1
  subst e
  cases r1 with
  | cons r rr =>
    cases rr with
    | cons r' rr =>
      cases rr
      obtain ⟨t, rfl⟩ := r
      obtain ⟨t', rfl⟩ := r'
      exact call_range_2 (range_it I1 q1 q2 q3 q4 q)

/-! ### for -/
/-- W: the invariant by the turn and a measure; N: what the body is to reach -/
def tFor (wi : TI) (g : TG) (tb : TS) : TS := fun D σ H => wi σ H fun J H1 => ∃ W : Nat → Nat → St → Hp → Prop, (∃ m, W 0 m σ H1) ∧ ∀ i m σ H, W i m σ H →
  (J.stop i H ∧ D.nx σ H) ∨ (J.go i H ∧ ∃ N : St → Hp → Prop, (∀ σ' H', N σ' H' → ∃ m', m' < m ∧ W (i + 1) m' σ' H') ∧ ∀ x H', J.yld i H x H' → g x σ H' fun σ2 H2 => tb { D with nx := N, ct := N, bk := D.nx } σ2 H2)
/-- the records at fp as they stand -/
def pinsAt (fp : List Addr) (h : Heap) : List (Addr × Obj) := fp.filterMap fun b => (h.get? b).map fun o => (b, o)
theorem mem_pinsAt {fp : List Addr} {h : Heap} {b : Addr} {o : Obj} (hb : b ∈ fp) (e : h.get? b = some o) : (b, o) ∈ pinsAt fp h := List.mem_filterMap.mpr ⟨b, hb, by rw [e]; rfl⟩
theorem of_pinsAt {fp : List Addr} {h : Heap} {p : Addr × Obj} (hp : p ∈ pinsAt fp h) : p.1 ∈ fp ∧ h.get? p.1 = some p.2 := by
  obtain ⟨b, hb, e⟩ := List.mem_filterMap.mp hp
  cases q : h.get? b with
  | none => rw [q] at e; cases e
  | some o =>
    rw [q] at e
    have e' : (b, o) = p := Option.some.inj e
    subst e'
    exact ⟨hb, q⟩
theorem Inv.pinned {pins : List (Addr × Obj)} {σ : St} {H : Hp} {s : Shared} {fp : List Addr} (I : Inv X pins σ H s) (hf : ∀ b ∈ fp, FpOk X pins H b) (ho : ∀ b ∈ fp, ∃ o, s.heap.get? b = some o ∧ ∀ v, o.data ≠ .cell v) : Inv X (pins ++ pinsAt fp s.heap) σ H s :=
  I.pins_of fun p hp => (List.mem_append.mp hp).elim (fun z => I.pin p (List.mem_append_right _ z)) fun z => by
    obtain ⟨hb, e⟩ := of_pinsAt z
    obtain ⟨f0, f1, f2, _⟩ := hf p.1 hb
    obtain ⟨o, e', d⟩ := ho p.1 hb
    rw [e] at e'; cases e'
    exact ⟨e, f0, f1, f2, d⟩
theorem Inv.unpinned {pins pl : List (Addr × Obj)} {σ : St} {H : Hp} {s : Shared} (I : Inv X (pins ++ pl) σ H s) : Inv X pins σ H s := I.pins_of fun p hp => I.pin p (List.mem_append_right _ (List.mem_append_left _ hp))
theorem ps_for {iter : Expr} {body : List Stmt} {wi : TI} {g : TG} {tb : TS} {pos : Pos} (hp : PassesOwn (model X.prog X.w) X.A X.env X.xe) (hc : X.calm = true) (hi : PI X tg iter wi) (hg : PG X tg g) (hb : PSs X body tb)
    (hs : ∀ x, foldedSetIterable iter X.env x = pure x := by intro _; rfl) : PS X (.For tg iter body [] pos) (tFor wi g tb) := by
  intro pins s σ H D I h
  refine wpAny_For (thn (hi pins s σ H _ I h) fun v s1 h1 => thn h1 fun itv s2 h2 => ?_) hs
  obtain ⟨it, fp, tn, J, H2, e, I2, T, st2, f2, W, ⟨m0, w0⟩, turn⟩ := h2
  subst e
  -- what stays true of the iterator's objects through the loop
  have stat : ∀ {H' : Hp}, (∀ b ∈ fp, H' b = none) → ∀ b ∈ fp, FpOk X pins H' b := fun hn b hb => ⟨hn b hb, (f2 b hb).2⟩
  refine codeAny_forLoop_any (fun n s' => ∃ i σ' H', Inv X pins σ' H' s' ∧ tn i s'.heap ∧ (∀ b ∈ fp, H' b = none) ∧ W i n σ' H') ?_ m0 ⟨0, σ, H2, I2, st2, fun b hb => (f2 b hb).1, w0⟩
  rintro n s3 ⟨i, σ3, H3, I3, st3, fr3, w3⟩
  rcases turn i n σ3 H3 w3 with ⟨stop, qn⟩ | ⟨go, N, hN, step⟩
  · refine wpAny_passesOwn hp (thn (T.done X rfl rfl rfl hc i pins s3 σ3 H3 X.xe I3 (stat fr3) st3 stop) fun r s4 ⟨hr, I4⟩ => ?_)
    subst hr
    exact wpAny_execs_nil ⟨σ3, H3, I4, qn⟩
  · refine wpAny_passesOwn hp (thn (T.item X rfl rfl rfl hc i pins s3 σ3 H3 X.xe I3 (stat fr3) st3 go) fun r s4 ⟨u, hr, h4⟩ => ?_)
    subst hr
    refine wpAny_passesOwn hp (thn h4 fun _ s5 ⟨x, H5, I5, r5, y5, st5, fr5⟩ => ?_)
    have I5' := I5.pinned (stat fr5) (T.obj _ _ st5)
    refine wpAny_passesOwn hp (thn (hg _ s5 σ3 H5 x u _ I5' r5 (step x H5 y5)) fun _ s6 ⟨σ6, H6, I6, q6⟩ => ?_)
    refine wpAny_passesOwn hp (thn (hb _ s6 σ6 H6 _ I6 q6) fun f s7 q7 => ?_)
    have again : ∀ {σ7 : St} {H7 : Hp}, Inv X (pins ++ pinsAt fp s5.heap) σ7 H7 s7 → N σ7 H7 → ∃ m, m < n ∧ ∃ i σ' H', Inv X pins σ' H' s7 ∧ tn i s7.heap ∧ (∀ b ∈ fp, H' b = none) ∧ W i m σ' H' := fun {σ7 H7} I7 n7 => by
      obtain ⟨m', hm, w7⟩ := hN σ7 H7 n7
      refine ⟨m', hm, i + 1, σ7, H7, I7.unpinned, T.keep _ _ _ st5 fun b hb o e => (I7.pin (b, o) (List.mem_append_right _ (List.mem_append_right _ (mem_pinsAt hb e)))).1, fun b hb => ?_, w7⟩
      obtain ⟨o, e, d⟩ := T.obj _ _ st5 b hb
      exact (I7.pin (b, o) (List.mem_append_right _ (List.mem_append_right _ (mem_pinsAt hb e)))).2.1
    cases f with
    | next => obtain ⟨σ7, H7, I7, n7⟩ := q7; exact again I7 n7
    | cont => obtain ⟨σ7, H7, I7, n7⟩ := q7; exact again I7 n7
    | brk => obtain ⟨σ7, H7, I7, q7⟩ := q7; exact ⟨σ7, H7, I7.unpinned, q7⟩
    | ret v => obtain ⟨x7, σ7, H7, I7, r7, q7⟩ := q7; exact ⟨x7, σ7, H7, I7.unpinned, r7, q7⟩
end

/-! ### the forms one uses -/
/-- over a list that the body leaves as it is -/
theorem for_list {K : PySem.W.Frag} {a : Addr} {xs : List V} {g : TG} {tb : TS} {D : Ends} {σ : St} {H : Hp} (Pv : Nat → St → Hp → Prop) (h0 : Pv 0 σ H) (hl : ∀ i σ H, i ≤ xs.length → Pv i σ H → SqL K H a xs)
    (hs : ∀ i x σ H, xs[i]? = some x → Pv i σ H → g x σ H fun σ2 H2 => tb { D with nx := Pv (i + 1), ct := Pv (i + 1), bk := D.nx } σ2 H2) (hd : ∀ σ H, Pv xs.length σ H → D.nx σ H) :
    ∃ W : Nat → Nat → St → Hp → Prop, (∃ m, W 0 m σ H) ∧ ∀ i m σ H, W i m σ H →
      ((Itl K a).stop i H ∧ D.nx σ H) ∨ ((Itl K a).go i H ∧ ∃ N : St → Hp → Prop, (∀ σ' H', N σ' H' → ∃ m', m' < m ∧ W (i + 1) m' σ' H') ∧ ∀ x H', (Itl K a).yld i H x H' → g x σ H' fun σ2 H2 => tb { D with nx := N, ct := N, bk := D.nx } σ2 H2) := by
  refine ⟨fun i m σ H => m = xs.length - i ∧ i ≤ xs.length ∧ Pv i σ H, ⟨xs.length, by simp, Nat.zero_le _, h0⟩, ?_⟩
  rintro i m σ H ⟨rfl, hi, p⟩
  have q := hl i σ H hi p
  by_cases hlt : i < xs.length
  · refine .inr ⟨⟨xs, xs[i], q, by simp [hlt]⟩, Pv (i + 1), fun σ' H' p' => ⟨xs.length - (i + 1), by omega, rfl, hlt, p'⟩, fun x H' y => ?_⟩
    obtain ⟨e, y⟩ := y
    subst e
    exact hs i x σ _ (y xs q) p
  · have e : i = xs.length := by omega
    subst e
    exact .inl ⟨⟨xs, q, Nat.le_refl _⟩, hd σ H p⟩
theorem for_range {lo : Int} {n : Nat} {g : TG} {tb : TS} {D : Ends} {σ : St} {H : Hp} (Pv : Nat → St → Hp → Prop) (h0 : Pv 0 σ H)
    (hs : ∀ i σ H, i < n → Pv i σ H → g (.int (lo + i)) σ H fun σ2 H2 => tb { D with nx := Pv (i + 1), ct := Pv (i + 1), bk := D.nx } σ2 H2) (hd : ∀ σ H, Pv n σ H → D.nx σ H) :
    ∃ W : Nat → Nat → St → Hp → Prop, (∃ m, W 0 m σ H) ∧ ∀ i m σ H, W i m σ H →
      ((Itr lo n).stop i H ∧ D.nx σ H) ∨ ((Itr lo n).go i H ∧ ∃ N : St → Hp → Prop, (∀ σ' H', N σ' H' → ∃ m', m' < m ∧ W (i + 1) m' σ' H') ∧ ∀ x H', (Itr lo n).yld i H x H' → g x σ H' fun σ2 H2 => tb { D with nx := N, ct := N, bk := D.nx } σ2 H2) := by
  refine ⟨fun i m σ H => m = n - i ∧ i ≤ n ∧ Pv i σ H, ⟨n, by simp, Nat.zero_le _, h0⟩, ?_⟩
  rintro i m σ H ⟨rfl, hi, p⟩
  by_cases hlt : i < n
  · refine .inr ⟨hlt, Pv (i + 1), fun σ' H' p' => ⟨n - (i + 1), by omega, rfl, hlt, p'⟩, fun x H' y => ?_⟩
    obtain ⟨e, y⟩ := y
    subst e y
    exact hs i σ _ hlt p
  · have e : i = n := by omega
    subst e
    exact .inl ⟨Nat.le_refl _, hd σ H p⟩
end L2

namespace L2
open PySem PySem.Spec PyProof.Rows

abbrev R2 := V → V → Hp → VK → Prop
/-- a two-place operation on values: f is binaryOp op, inplaceOp op or compareOp op -/
def OpR (X : Cx) (f : Value → Value → Sem Value) (r : R2) : Prop :=
  ∀ (pins : List (Addr × Obj)) (s : Shared) (σ : St) (H : Hp) (x y : V) (v u : Value) (Q : VK), Inv X pins σ H s → RelV x v → RelV y u → r x y H Q →
    wpAny (model X.prog X.w) X.A (f v u) (EP X pins σ Q) X.xe s
/-- a one-place operation -/
def UnR (X : Cx) (f : Value → Sem Value) (r : V → Hp → VK → Prop) : Prop :=
  ∀ (pins : List (Addr × Obj)) (s : Shared) (σ : St) (H : Hp) (x : V) (v : Value) (Q : VK), Inv X pins σ H s → RelV x v → r x H Q →
    wpAny (model X.prog X.w) X.A (f v) (EP X pins σ Q) X.xe s
/-- a call of a value that is known (a builtin, a type) with values -/
def CallR (X : Cx) (f : Value) (r : List V → Hp → VK → Prop) : Prop :=
  ∀ (pins : List (Addr × Obj)) (s : Shared) (σ : St) (H : Hp) (xs : List V) (us : List Value) (Q : VK), Inv X pins σ H s → Vals xs us → r xs H Q →
    wpAny (model X.prog X.w) X.A (call f us) (EP X pins σ Q) X.xe s

def tOp (r : R2) (ta tb : TE) : TE := fun σ H Q => ta σ H fun x H1 => tb σ H1 fun y H2 => r x y H2 Q
def tUn (r : V → Hp → VK → Prop) (ta : TE) : TE := fun σ H Q => ta σ H fun x H1 => r x H1 Q
/-- ints in, under C, and a value out -/
def rI (C : Int → Int → Prop) (g : Int → Int → V) : R2 := fun x y H Q => ∃ i j, x = .int i ∧ y = .int j ∧ C i j ∧ Q (g i j) H
def rI0 (g : Int → Int → V) : R2 := fun x y H Q => ∃ i j, x = .int i ∧ y = .int j ∧ Q (g i j) H
def rU (g : Int → V) : V → Hp → VK → Prop := fun x H Q => ∃ i, x = .int i ∧ Q (g i) H

section
variable {X : Cx} {a b c : Expr} {ta tb tc : TE} {pos : Pos}

theorem binT (ha : PE X a ta) (hb : PE X b tb) {pins : List (Addr × Obj)} {s : Shared} {σ : St} {H : Hp} {R : V → V → Hp → Prop} (I : Inv X pins σ H s)
    (h : ta σ H fun x H1 => tb σ H1 fun y H2 => R x y H2) {Q : Value → Shared → Prop} {f : Value → Value → Sem Value}
    (hf : ∀ v u s2 x y H2, Inv X pins σ H2 s2 → RelV x v → RelV y u → R x y H2 → wpAny (model X.prog X.w) X.A (f v u) Q X.xe s2) :
    wpAny (model X.prog X.w) X.A (eval a X.env) (fun v s₁ => wpAny (model X.prog X.w) X.A (eval b X.env) (fun u s₂ => wpAny (model X.prog X.w) X.A (f v u) Q X.xe s₂) X.xe s₁) X.xe s := by
  refine thn (ha pins s σ H _ I h) fun v s1 ⟨x, H1, I1, r1, q1⟩ => ?_
  refine thn (hb pins s1 σ H1 _ I1 q1) fun u s2 ⟨y, H2, I2, r2, q2⟩ => ?_
  exact hf v u s2 x y H2 I2 r1 r2 q2

theorem pe_op {op : Operator} {r : R2} (ho : OpR X (binaryOp op) r) (ha : PE X a ta) (hb : PE X b tb) : PE X (.BinOp a op b pos) (tOp r ta tb) := by
  intro pins s σ H Q I h
  exact wpAny_BinOp (binT ha hb I h fun v u s2 x y H2 I2 rx ry q => ho pins s2 σ H2 x y v u Q I2 rx ry q)
theorem pe_un {op : UnaryOp} {r : V → Hp → VK → Prop} (ho : UnR X (unaryOp op) r) (ha : PE X a ta) : PE X (.UnaryOp op a pos) (tUn r ta) := by
  intro pins s σ H Q I h
  exact UnaryOp_ (thn (ha pins s σ H _ I h) fun v s1 ⟨x, H1, I1, r1, q1⟩ => ho pins s1 σ H1 x v Q I1 r1 q1)

/-! ### ints -/
theorem opI {f : Value → Value → Sem Value} {C : Int → Int → Prop} {g : Int → Int → Int}
    (rule : ∀ (i j : Int) (t u : Tok) (s : Shared) (Q : Value → Shared → Prop) (E : Value → Shared → Prop), C i j → Q (.int (g i j) s.toks) { s with toks := s.toks + 1 } → wpAny (model X.prog X.w) X.A (f (.int i t) (.int j u)) Q E s) :
    OpR X f (rI C fun i j => .int (g i j)) := by
  intro pins s σ H x y v u Q I rx ry h
  obtain ⟨i, j, rfl, rfl, hc, q⟩ := h
  obtain ⟨t, rfl⟩ := rx
  obtain ⟨t', rfl⟩ := ry
  exact rule i j t t' s _ _ hc ⟨.int (g i j), H, I.tok _, ⟨_, rfl⟩, q⟩
theorem opI0 {f : Value → Value → Sem Value} {g : Int → Int → Int}
    (rule : ∀ (i j : Int) (t u : Tok) (s : Shared) (Q : Value → Shared → Prop) (E : Value → Shared → Prop), Q (.int (g i j) s.toks) { s with toks := s.toks + 1 } → wpAny (model X.prog X.w) X.A (f (.int i t) (.int j u)) Q E s) :
    OpR X f (rI0 fun i j => .int (g i j)) := by
  intro pins s σ H x y v u Q I rx ry h
  obtain ⟨i, j, rfl, rfl, q⟩ := h
  obtain ⟨t, rfl⟩ := rx
  obtain ⟨t', rfl⟩ := ry
  exact rule i j t t' s _ _ ⟨.int (g i j), H, I.tok _, ⟨_, rfl⟩, q⟩
theorem opB0 {f : Value → Value → Sem Value} {g : Int → Int → Bool}
    (rule : ∀ (i j : Int) (t u : Tok) (s : Shared) (Q : Value → Shared → Prop) (E : Value → Shared → Prop), Q (.bool (g i j)) s → wpAny (model X.prog X.w) X.A (f (.int i t) (.int j u)) Q E s) :
    OpR X f (rI0 fun i j => .bl (g i j)) := by
  intro pins s σ H x y v u Q I rx ry h
  obtain ⟨i, j, rfl, rfl, q⟩ := h
  obtain ⟨t, rfl⟩ := rx
  obtain ⟨t', rfl⟩ := ry
  exact rule i j t t' s _ _ ⟨.bl (g i j), H, I, rfl, q⟩

def CDiv (i j : Int) : Prop := 0 < j ∧ j < 1073741824
def CMul (i j : Int) : Prop := (-(2 ^ 64) < i ∧ i < 2 ^ 64) ∨ (-(2 ^ 64) < j ∧ j < 2 ^ 64)
theorem CMul.ok {i j : Int} (h : CMul i j) : IntMulOk i j := by
  rcases h with ⟨h1, h2⟩ | ⟨h1, h2⟩
  · exact .of_left (intBits_le_64 h1 h2)
  · exact .of_right (intBits_le_64 h1 h2)

theorem op_add : OpR X (binaryOp .Add) (rI0 fun i j => .int (i + j)) := opI0 fun _ _ _ _ _ _ _ q => add_int q
theorem op_sub : OpR X (binaryOp .Sub) (rI0 fun i j => .int (i - j)) := opI0 fun _ _ _ _ _ _ _ q => sub_int q
theorem op_mul : OpR X (binaryOp .Mult) (rI CMul fun i j => .int (i * j)) := opI fun _ _ _ _ _ _ _ hc q => mul_int q hc.ok
/-- // by a positive divisor -/
theorem op_fdiv : OpR X (binaryOp .FloorDiv) (rI CDiv fun i j => .int (i / j)) := opI fun i j _ _ _ _ _ hc q => by
  have h1 : (0 : Int) < j := hc.1
  have h2 : j < 1073741824 := hc.2
  exact floordiv_int (by omega) (by rw [Int.fdiv_eq_ediv_of_nonneg i (by omega)]; exact q) (.inl (PyProof.noPylong_small (by omega)))
/-- % by a positive divisor of any size -/
theorem op_mod : OpR X (binaryOp .Mod) (rI (fun _ j => 0 < j) fun i j => .int (i % j)) := opI fun i j _ _ _ _ _ hc q => by
  have h1 : (0 : Int) < j := hc
  exact mod_int' (by omega) (by rw [Int.fmod_eq_emod_of_nonneg i (by omega)]; exact q)


theorem unI {f : Value → Sem Value} {g : Int → Int}
    (rule : ∀ (i : Int) (t : Tok) (s : Shared) (Q : Value → Shared → Prop) (E : Value → Shared → Prop), Q (.int (g i) s.toks) { s with toks := s.toks + 1 } → wpAny (model X.prog X.w) X.A (f (.int i t)) Q E s) :
    UnR X f (rU fun i => .int (g i)) := by
  intro pins s σ H x v Q I rx h
  obtain ⟨i, rfl, q⟩ := h
  obtain ⟨t, rfl⟩ := rx
  exact rule i t s _ _ ⟨.int (g i), H, I.tok _, ⟨_, rfl⟩, q⟩
theorem un_neg : UnR X (unaryOp .USub) (rU fun i => .int (-i)) := unI fun _ _ _ _ _ q => neg_int q

/-! ### bools among ints: n += (a < b) -/
end

/-! ### comparisons -/
/-- the scalars that == tells apart as data does -/
def scal : V → V → Bool
  | .non, .non => true | .non, .int _ => true | .int _, .non => true | .non, .bl _ => true | .bl _, .non => true | .non, .str _ => true | .str _, .non => true
  | .int _, .int _ => true | .bl _, .bl _ => true | .str _, .str _ => true | .byt _, .byt _ => true
  | .int _, .str _ => true | .str _, .int _ => true | .bl _, .str _ => true | .str _, .bl _ => true
  | _, _ => false
def rEq : R2 := fun x y H Q => scal x y = true ∧ Q (.bl (decide (x = y))) H
def rNe : R2 := fun x y H Q => scal x y = true ∧ Q (.bl (!decide (x = y))) H

theorem dec_int {i j : Int} : decide (V.int i = V.int j) = (i == j) := by
  rw [Bool.eq_iff_iff]
  simp
theorem dec_bl {i j : Bool} : decide (V.bl i = V.bl j) = (i == j) := by
  rw [Bool.eq_iff_iff]
  simp
theorem dec_str {i j : Str} : decide (V.str i = V.str j) = (i == j) := by
  rw [Bool.eq_iff_iff]
  simp
theorem dec_byt {i j : Array UInt8} : decide (V.byt i = V.byt j) = (i.toList == j.toList) := by
  rw [Bool.eq_iff_iff]
  cases i
  cases j
  simp

section
variable {X : Cx} {a b c : Expr} {ta tb tc : TE} {pos : Pos}
theorem fin_bl {pins : List (Addr × Obj)} {σ : St} {H : Hp} {s : Shared} {Q : VK} {k k' : Bool} (I : Inv X pins σ H s) (q : Q (.bl k) H) (e : k = k') : EP X pins σ Q (.bool k') s := by
  subst e
  exact ⟨.bl k, H, I, rfl, q⟩
theorem op_eq : OpR X (compareOp .Eq) rEq := by
  intro pins s σ H x y v u Q I rx ry h
  obtain ⟨hs, q⟩ := h
  cases x with
  | non =>
    cases rx
    cases y with
    | non => cases ry; exact PySem.EqNone.eq_none_none (fin_bl I q (by simp))
    | bl j => cases ry; exact PySem.EqNone.eq_none_bool (fin_bl I q (by simp))
    | int j => obtain ⟨t', rfl⟩ := ry; exact PySem.EqNone.eq_none_int (fin_bl I q (by simp))
    | str j => obtain ⟨t', rfl⟩ := ry; exact PySem.EqNone.eq_none_str (fin_bl I q (by simp))
    | _ => exact absurd (show false = true from hs) Bool.false_ne_true
  | bl i =>
    cases rx
    cases y with
    | non => cases ry; exact PySem.EqNone.eq_bool_none (fin_bl I q (by simp))
    | bl j => cases ry; exact eq_bool (fin_bl I q dec_bl)
    | str j => obtain ⟨t', rfl⟩ := ry; exact PySem.EqMixed.eq_bool_str (fin_bl I q (by simp))
    | _ => exact absurd (show false = true from hs) Bool.false_ne_true
  | int i =>
    obtain ⟨t, rfl⟩ := rx
    cases y with
    | non => cases ry; exact PySem.EqNone.eq_int_none (fin_bl I q (by simp))
    | int j => obtain ⟨t', rfl⟩ := ry; exact eq_int (fin_bl I q dec_int)
    | str j => obtain ⟨t', rfl⟩ := ry; exact PySem.EqMixed.eq_int_str (fin_bl I q (by simp))
    | _ => exact absurd (show false = true from hs) Bool.false_ne_true
  | str i =>
    obtain ⟨t, rfl⟩ := rx
    cases y with
    | non => cases ry; exact PySem.EqNone.eq_str_none (fin_bl I q (by simp))
    | bl j => cases ry; exact PySem.EqMixed.eq_str_bool (fin_bl I q (by simp))
    | int j => obtain ⟨t', rfl⟩ := ry; exact PySem.EqMixed.eq_str_int (fin_bl I q (by simp))
    | str j => obtain ⟨t', rfl⟩ := ry; exact eq_str (fin_bl I q dec_str)
    | _ => exact absurd (show false = true from hs) Bool.false_ne_true
  | byt i =>
    obtain ⟨t, rfl⟩ := rx
    cases y with
    | byt j => obtain ⟨t', rfl⟩ := ry; exact PySem.W.eq_bytes (fin_bl I q dec_byt)
    | _ => exact absurd (show false = true from hs) Bool.false_ne_true
  | _ => cases y <;> exact absurd (show false = true from hs) Bool.false_ne_true
theorem op_ne : OpR X (compareOp .NotEq) rNe := by
  intro pins s σ H x y v u Q I rx ry h
  obtain ⟨hs, q⟩ := h
  cases x with
  | non =>
    cases rx
    cases y with
    | non => cases ry; exact PySem.EqNone.ne_none_none (fin_bl I q (by simp))
    | bl j => cases ry; exact PySem.EqNone.ne_none_bool (fin_bl I q (by simp))
    | int j => obtain ⟨t', rfl⟩ := ry; exact PySem.EqNone.ne_none_int (fin_bl I q (by simp))
    | str j => obtain ⟨t', rfl⟩ := ry; exact PySem.EqNone.ne_none_str (fin_bl I q (by simp))
    | _ => exact absurd (show false = true from hs) Bool.false_ne_true
  | bl i =>
    cases rx
    cases y with
    | non => cases ry; exact PySem.EqNone.ne_bool_none (fin_bl I q (by simp))
    | bl j => cases ry; exact ne_bool (fin_bl I q (congrArg not dec_bl))
    | str j => obtain ⟨t', rfl⟩ := ry; exact PySem.EqMixed.ne_bool_str (fin_bl I q (by simp))
    | _ => exact absurd (show false = true from hs) Bool.false_ne_true
  | int i =>
    obtain ⟨t, rfl⟩ := rx
    cases y with
    | non => cases ry; exact PySem.EqNone.ne_int_none (fin_bl I q (by simp))
    | int j => obtain ⟨t', rfl⟩ := ry; exact ne_int (fin_bl I q (congrArg not dec_int))
    | str j => obtain ⟨t', rfl⟩ := ry; exact PySem.EqMixed.ne_int_str (fin_bl I q (by simp))
    | _ => exact absurd (show false = true from hs) Bool.false_ne_true
  | str i =>
    obtain ⟨t, rfl⟩ := rx
    cases y with
    | non => cases ry; exact PySem.EqNone.ne_str_none (fin_bl I q (by simp))
    | bl j => cases ry; exact PySem.EqMixed.ne_str_bool (fin_bl I q (by simp))
    | int j => obtain ⟨t', rfl⟩ := ry; exact PySem.EqMixed.ne_str_int (fin_bl I q (by simp))
    | str j => obtain ⟨t', rfl⟩ := ry; exact ne_str (fin_bl I q (congrArg not dec_str))
    | _ => exact absurd (show false = true from hs) Bool.false_ne_true
  | byt i =>
    obtain ⟨t, rfl⟩ := rx
    cases y with
    | byt j => obtain ⟨t', rfl⟩ := ry; exact PySem.W.ne_bytes (fin_bl I q (congrArg not dec_byt))
    | _ => exact absurd (show false = true from hs) Bool.false_ne_true
  | _ => cases y <;> exact absurd (show false = true from hs) Bool.false_ne_true

theorem op_lt : OpR X (compareOp .Lt) (rI0 fun i j => .bl (decide (i < j))) := opB0 fun _ _ _ _ _ _ _ q => lt_int q
theorem op_le : OpR X (compareOp .LtE) (rI0 fun i j => .bl (decide (i ≤ j))) := opB0 fun _ _ _ _ _ _ _ q => le_int q
theorem op_gt : OpR X (compareOp .Gt) (rI0 fun i j => .bl (decide (j < i))) := opB0 fun _ _ _ _ _ _ _ q => gt_int q
theorem op_ge : OpR X (compareOp .GtE) (rI0 fun i j => .bl (decide (j ≤ i))) := opB0 fun _ _ _ _ _ _ _ q => ge_int q




theorem nomark (b : Expr) {op : CmpOp} (h : op ≠ .In := by decide) (h2 : op ≠ .NotIn := by decide) : behindInMarks op b = false := by
  have e1 : (op == CmpOp.In) = false := by cases op <;> first | rfl | exact absurd rfl h
  have e2 : (op == CmpOp.NotIn) = false := by cases op <;> first | rfl | exact absurd rfl h2
  cases b <;> simp [behindInMarks, e1, e2]
/-- a comparison as a value; hm: nomark b, or (for in, not in) by with_unfolding_all rfl -/
theorem pe_cmpR {op : CmpOp} {r : R2} (ho : OpR X (compareOp op) r) (ha : PE X a ta) (hb : PE X b tb) (hm : behindInMarks op b = false) : PE X (.Compare a [op] [b] pos) (tOp r ta tb) := by
  intro pins s σ H Q I h
  exact wpAny_Compare1 (binT ha hb I h fun v u s2 x y H2 I2 rx ry q => ho pins s2 σ H2 x y v u Q I2 rx ry q) hm
/-- a reading of a value as a test -/
def tTest (t : TE) : TT := fun σ H Q => t σ H fun x H' => ∃ k, x = .bl k ∧ Q k H'
theorem pt_cmpR {op : CmpOp} {r : R2} (ho : OpR X (compareOp op) r) (ha : PE X a ta) (hb : PE X b tb) (hm : behindInMarks op b = false) : PT X (.Compare a [op] [b] pos) (tTest (tOp r ta tb)) := by
  intro pins s σ H Q I h
  refine wpAny_isTrue_Compare1 (thn (ha pins s σ H _ I h) fun v s1 ⟨x, H1, I1, r1, q1⟩ => thn (hb pins s1 σ H1 _ I1 q1) fun u s2 ⟨y, H2, I2, r2, q2⟩ =>
    thn (ho pins s2 σ H2 x y v u _ I2 r1 r2 q2) fun c s3 ⟨z, H3, I3, r3, k, e, q3⟩ => ?_) hm
  subst e
  cases r3
  exact wpAny_truthy_bool ⟨H3, I3, q3⟩
/-- a op1 b op2 c -/
def tChain (r r' : R2) (ta tb tc : TE) : TE := fun σ H Q => ta σ H fun x H1 => tb σ H1 fun y H2 => r x y H2 fun z H3 => ∃ k, z = .bl k ∧
  (if k = true then tc σ H3 fun w' H4 => r' y w' H4 Q else Q (.bl false) H3)
theorem pe_chain {op op' : CmpOp} {r r' : R2} (ho : OpR X (compareOp op) r) (ho' : OpR X (compareOp op') r') (ha : PE X a ta) (hb : PE X b tb) (hc : PE X c tc)
    (hm : lastMarks [op, op'] [b, c] = false := by with_unfolding_all rfl) : PE X (.Compare a [op, op'] [b, c] pos) (tChain r r' ta tb tc) := by
  intro pins s σ H Q I h
  refine Compare_chain (thn (ha pins s σ H _ I h) fun v s1 ⟨x, H1, I1, r1, q1⟩ => chain_link (thn (hb pins s1 σ H1 _ I1 q1) fun u s2 ⟨y, H2, I2, r2, q2⟩ =>
    thn (ho pins s2 σ H2 x y v u _ I2 r1 r2 q2) fun d s3 ⟨z, H3, I3, r3, k, e, q3⟩ => ?_)) hm
  subst e
  cases r3
  refine wpAny_truthy_bool ?_
  cases k with
  | false => exact ite_ff ⟨.bl false, H3, I3, rfl, q3⟩
  | true => exact ite_tt (chain_last (thn (hc pins s3 σ H3 _ I3 q3) fun w' s4 ⟨z', H4, I4, r4, q4⟩ => ho' pins s4 σ H4 y z' u w' Q I4 r2 r4 q4))

/-! ### truth -/
theorem line63 : (sizeLine : Nat) < 2 ^ 63 := by rw [sizeLine_eq]; decide

/-! ### strs and bytes -/


/-! ### scalar builtins, by CallR -/
theorem vals1 {x : V} {us : List Value} (r : Vals [x] us) : ∃ u, us = [u] ∧ RelV x u := by
  cases r with
  | cons r1 r2 => cases r2; exact ⟨_, rfl, r1⟩
theorem vals2 {x y : V} {us : List Value} (r : Vals [x, y] us) : ∃ u w', us = [u, w'] ∧ RelV x u ∧ RelV y w' := by
  cases r with
  | cons r1 r2 =>
    cases r2 with
    | cons r3 r4 => cases r4; exact ⟨_, _, rfl, r1, r3⟩
theorem call_abs : CallR X (.builtin "abs") (fun xs H Q => ∃ i, xs = [.int i] ∧ Q (.int (if i < 0 then -i else i)) H) := by
  intro pins s σ H xs us Q I r h
  obtain ⟨i, rfl, q⟩ := h
  obtain ⟨u, rfl, t, rfl⟩ := vals1 r
  exact call_abs_int fun u tk => ⟨.int (if i < 0 then -i else i), H, I.tok _, ⟨_, rfl⟩, q⟩
theorem call_max2 (hc : X.calm = true) : CallR X (.builtin "max") (fun xs H Q => ∃ i j, xs = [.int i, .int j] ∧ Q (.int (if j > i then j else i)) H) := by
  intro pins s σ H xs us Q I r h
  obtain ⟨i, j, rfl, q⟩ := h
  obtain ⟨u, w', rfl, ⟨t, rfl⟩, ⟨t', rfl⟩⟩ := vals2 r
  refine max_two_ints (I.ok.hd hc) fun h' tk k => ⟨_, H, I.kept k, ?_, q⟩
  by_cases hj : j > i
  · rw [if_pos hj, if_pos hj]; exact ⟨_, rfl⟩
  · rw [if_neg hj, if_neg hj]; exact ⟨_, rfl⟩
end
end L2

namespace L2
open PySem PySem.Spec PyProof.Rows

/-! ### an instance, its attributes a map -/
structure ObjM (h : Heap) (x dx C : Addr) (mA : Str → Option Value) : Prop where
  obj : h.get? x = some (PySem.W.instObj C dx)
  ns : h.Ns1 dx mA
  ne : dx ≠ x

theorem lookIn_ns {h : Heap} {dx : Addr} {mA : Str → Option Value} (n : h.Ns1 dx mA) : ∃ od, h.get? dx = some od ∧ ∀ name, PySem.W.lookIn name od = some (mA name) := by
  obtain ⟨o, es, ep, ho, hd, hk, _, hm⟩ := n
  refine ⟨o, ho, fun name => ?_⟩
  have e := hm name
  unfold nsFind findBy at e
  rw [← Array.find?_toList] at e
  unfold PySem.W.lookIn
  rw [hd]
  dsimp only
  split
  · rename_i y q
    rw [q] at e
    exact congrArg some e
  · rename_i q
    rw [q] at e
    have a : es.toList.any (·.refKey) = false := by
      rw [List.any_eq_false]
      intro y hy
      obtain ⟨z, t, hkey⟩ := hk y (Array.mem_toList_iff.mp hy)
      simp [DictEntry.refKey, hkey]
    have a' : ¬ es.toList.any (·.refKey) = true := by rw [a]; exact Bool.false_ne_true
    rw [if_neg a']
    exact congrArg some e

theorem ObjM.look {h : Heap} {x dx C : Addr} {mA : Str → Option Value} (I : ObjM h x dx C mA) : ∃ od, PySem.W.InstAt h x (PySem.W.instObj C dx) C (some od) ∧ ∀ name, PySem.W.lookIn name od = some (mA name) :=
  let ⟨od, ho, hl⟩ := lookIn_ns I.ns
  ⟨od, ⟨I.obj, rfl, rfl, ho⟩, hl⟩

section
variable {prog : Program} {w : World} {A : Around} {E : Value → Shared → Prop} {s : Shared} {K : PySem.W.Frag} {x dx C f : Addr} {mA : Str → Option Value} {name : Str} {v : Value}

theorem get_map {expr : Bool} {Q : Value → Shared → Prop} (X : K.In s.heap) (I : ObjM s.heap x dx C mA) (hg : PySem.W.plainGet K C name = true) (hh : PySem.W.hasDictIn K C = true)
    (ha : PySem.W.findIn K (.ref C) name = some none) (hv : mA name = some v) (hv' : PySem.W.handedIn v = true) (h : Q v { s with toks := s.toks + 1 }) :
    wpAny (model prog w) A (getAttr (.ref x) name expr) Q E s := by
  obtain ⟨od, J, hl⟩ := I.look
  exact PySem.W.get_value X J (PySem.W.plainGet_of hg).1 (PySem.W.findObj_own hh ha rfl (by rw [hl, hv])) hv' h


theorem get_meth {pl : Sem Bool} {Q : Value × List Value → Shared → Prop} (X : K.In s.heap) (I : ObjM s.heap x dx C mA) (hg : PySem.W.plainGet K C name = true)
    (hf : PySem.W.findIn K (.ref C) name = some (some (.ref f))) (ht : PySem.W.isFn K (.ref f) = true) (hv : mA name = none) (h : Q (.ref f, [.ref x]) s) :
    wpAny (model prog w) A (getMethod (.ref x) name pl) Q E s := by
  obtain ⟨od, J, hl⟩ := I.look
  exact PySem.W.method_fn X J (PySem.W.plainGet_of hg).1 (PySem.W.plainGet_of hg).2 hf (beq_iff_eq.mp ht) (by show (PySem.W.lookIn name od).map (·.isSome) = some false; rw [hl, hv]; rfl) h

theorem set_map {ns : List Str} {Q : Unit → Shared → Prop} (X : K.In s.heap) (I : ObjM s.heap x dx C mA)
    (hs : PySem.W.findIn K (.ref C) "__setattr__" = some (some (.builtin "object.__setattr__"))) (hp : PySem.W.plainOver K C = true) (ht : PySem.W.takerIn K C name = some none) (hh : PySem.W.hasDictIn K C = true)
    (hw : PySem.Within mA ns) (hsz : ns.length ≤ sizeLine)
    (h : ∀ h', ObjM h' x dx C (fun y => if y = name then some v else mA y) → Heap.SameBut dx s.heap h' → Q () { s with heap := h', toks := s.toks + 2 }) :
    wpAny (model prog w) A (setAttr (.ref x) name v) Q E s := by
  obtain ⟨od, J, hl⟩ := I.look
  refine PySem.W.set_plain X J hs (PySem.W.osa_open (s := { s with toks := s.toks + 1 }) (r := none) X J hp ht fun b => ?_)
  obtain ⟨cd, hc, hd'⟩ := PySem.W.any_some hh
  have hx : s.heap.get? x = some ⟨.ref C, some dx, .plain, #[]⟩ := I.obj
  refine wpAny_bind (wpAny_pure (wpAny_bind (wpAny_bind (wpAny_loadPart hx (wpAny_bind (PySem.W.Looks.here (s := { s with toks := s.toks + 1 }) (PySem.W.looks_clsIn X hc) ?_))))))
  rw [hd']
  refine wpAny_pure (a := some dx) (wpAny_bind (wpAny_pure (wpAny_bind ?_)))
  refine wpAny_nsSet1 (s := { s with toks := s.toks + 1 }) I.ns fun h' hn2 hs2 => ?_
  obtain ⟨oD, esD, epD, hoD, hdD, hcD⟩ := hn2.count (PySem.Within.cons name v hw)
  refine wpAny_bind (wpAny_lookBehind hoD (by rw [hdD]; exact pastItsLine_dict (Nat.le_trans hcD (by rw [List.length_cons]; omega))) ?_)
  exact wpAny_pure (h _ ⟨(hs2.2 _ (Ne.symm I.ne)).trans I.obj, hn2, I.ne⟩ hs2)

/-- C(..): the dict at the heap's end, the instance behind it; then its __init__ -/
theorem make_map {R : Result → Shared → Prop} {vs : List Value} {kw : List (Str × Value)} (X : K.In s.heap) (hm : PySem.W.makesIn K C = true)
    (hi : PySem.W.findIn K (.ref C) "__init__" = some (some (.ref f))) (hf : PySem.W.typeIn K (.ref f) = some (.type "function"))
    (h : codeAny (model prog w) (A.under (.builtin "type.__call__" ⟨.ref C :: vs, kw⟩)) (.call (.ref f) ⟨.ref (s.heap.objs.size + 1) :: vs, kw⟩) (PySem.W.InitBack (s.heap.objs.size + 1) R)
      { s with heap := (s.heap.push PySem.W.emptyDict).push (PySem.W.instObj C s.heap.objs.size) }) :
    codeAny (model prog w) A (.call (.ref C) ⟨vs, kw⟩) R s := by
  obtain ⟨hh, g, d, t, os⟩ := s
  exact PySem.W.make_core (PySem.W.makes_of X hm) (PySem.W.looks_findIn X hi) (fun self => PySem.W.bind_fn X self hf) (.inl rfl) h
end

/-! ### the attributes as a list of pairs -/
def putF (f : Str) (v : V) : List (Str × V) → List (Str × V)
  | [] => [(f, v)]
  | (g, x) :: r => if g = f then (g, v) :: r else (g, x) :: putF f v r
theorem lookup_putF (f g : Str) (v : V) : ∀ fs : List (Str × V), (putF f v fs).lookup g = if g = f then some v else fs.lookup g
  | [] => by
    show List.lookup g [(f, v)] = _
    by_cases h : g = f
    · have hb : (g == f) = true := beq_iff_eq.mpr h
      simp only [List.lookup, hb, if_pos h]
    · have hb : (g == f) = false := beq_eq_false_iff_ne.mpr h
      simp only [List.lookup, hb, if_neg h]
  | (k, x) :: r => by
    have ih := lookup_putF f g v r
    rw [show putF f v ((k, x) :: r) = (if k = f then (k, v) :: r else (k, x) :: putF f v r) from rfl]
    by_cases hk : k = f
    · rw [if_pos hk]
      by_cases h : g = k
      · have hb : (g == k) = true := beq_iff_eq.mpr h
        simp only [List.lookup, hb, if_pos (h.trans hk)]
      · have hb : (g == k) = false := beq_eq_false_iff_ne.mpr h
        simp only [List.lookup, hb, if_neg (fun e : g = f => h (e.trans hk.symm))]
    · rw [if_neg hk]
      by_cases h : g = k
      · have hb : (g == k) = true := beq_iff_eq.mpr h
        simp only [List.lookup, hb, if_neg (fun e : g = f => hk (h.symm.trans e))]
      · have hb : (g == k) = false := beq_eq_false_iff_ne.mpr h
        simp only [List.lookup, hb]
        exact ih
theorem keys_putF (f : Str) (v : V) : ∀ fs : List (Str × V), f ∈ (putF f v fs).map (·.1) ∧ ∀ g, g ∈ fs.map (·.1) → g ∈ (putF f v fs).map (·.1)
  | [] => ⟨by simp [putF], fun g h => by simp at h⟩
  | (k, x) :: r => by
    obtain ⟨i1, i2⟩ := keys_putF f v r
    rw [show putF f v ((k, x) :: r) = (if k = f then (k, v) :: r else (k, x) :: putF f v r) from rfl]
    by_cases hk : k = f
    · rw [if_pos hk]
      subst hk
      exact ⟨by simp, fun g h => by simpa using h⟩
    · rw [if_neg hk]
      refine ⟨?_, fun g h => ?_⟩
      · rw [List.map_cons]
        exact List.mem_cons_of_mem _ i1
      · rw [List.map_cons] at h ⊢
        rcases List.mem_cons.mp h with e | e
        · exact List.mem_cons.mpr (.inl e)
        · exact List.mem_cons_of_mem _ (i2 g e)
theorem length_putF (f : Str) (v : V) : ∀ fs : List (Str × V), (putF f v fs).length ≤ fs.length + 1
  | [] => by simp [putF]
  | (k, x) :: r => by
    have ih := length_putF f v r
    rw [show putF f v ((k, x) :: r) = (if k = f then (k, v) :: r else (k, x) :: putF f v r) from rfl]
    by_cases hk : k = f
    · rw [if_pos hk, List.length_cons, List.length_cons]; omega
    · rw [if_neg hk, List.length_cons, List.length_cons]; omega

theorem RelO.some_of {v : V} {o : Option Value} (r : RelO (some v) o) : ∃ u, o = some u ∧ RelV v u := by
  cases o with
  | none => exact (show False from r).elim
  | some u => exact ⟨u, rfl, r⟩
theorem RelO.none_of {o : Option Value} (r : RelO none o) : o = none := by
  cases o with
  | none => rfl
  | some u => exact (show False from r).elim
theorem handed_of {v : V} {u : Value} (r : RelV v u) : PySem.W.handedIn u = true := by
  cases v with
  | non => cases (show u = Value.none from r); rfl
  | bl b => cases (show u = Value.bool b from r); rfl
  | int i => obtain ⟨t, e⟩ := (show ∃ t, u = Value.int i t from r); cases e; rfl
  | str x => obtain ⟨t, e⟩ := (show ∃ t, u = Value.str x t from r); cases e; rfl
  | byt b => obtain ⟨t, e⟩ := (show ∃ t, u = Value.bytes b t from r); cases e; rfl
  | flt b => obtain ⟨t, e⟩ := (show ∃ t, u = Value.float b t from r); cases e; rfl
  | ref a => cases (show u = Value.ref a from r); rfl
  | ty n => cases (show u = Value.type n from r); rfl

section
variable {P : Program} {w : World} {H H' : Hp} {h h' : Heap} {a C dx : Addr} {fs fs' : List (Str × V)}
theorem ins_get (hok : HOk P w H h) (e : H a = some (.ins C dx fs)) : ∃ mA, ObjM h a dx C mA ∧ (∀ f, RelO (fs.lookup f) (mA f)) ∧ PySem.Within mA (fs.map (·.1)) ∧ fs.length ≤ 1000 ∧ H dx = some (.own a) := by
  obtain ⟨d, z, ne, ob, mA, n, r, q⟩ := (show ObjOk P w H h a (.ins C dx fs) from hok a _ e)
  exact ⟨mA, ⟨ob, n, ne⟩, r, q, z, d⟩
end

/-! ### what of the text a class must have -/
structure Cls (K : PySem.W.Frag) (C : Addr) : Prop where
  pg : PySem.W.plainGet K C Str.empty = true
  hd : PySem.W.hasDictIn K C = true
  po : PySem.W.plainOver K C = true
  sa : PySem.W.findIn K (.ref C) "__setattr__" = some (some (.builtin "object.__setattr__"))
theorem Cls.get {K : PySem.W.Frag} {C : Addr} (c : Cls K C) (f : Str) : PySem.W.plainGet K C f = true := c.pg
/-- no class of it has the name -/
def NoAttr (K : PySem.W.Frag) (C : Addr) (f : Str) : Prop := PySem.W.findIn K (.ref C) f = some none
theorem NoAttr.taker {K : PySem.W.Frag} {C : Addr} {f : Str} (n : NoAttr K C f) : PySem.W.takerIn K C f = some none := by
  unfold PySem.W.takerIn
  rw [show PySem.W.findIn K (.ref C) f = some none from n]
  rfl
/-- a method: a plain def of the class or of one above it -/
structure Meth (K : PySem.W.Frag) (C : Addr) (m : Str) (f : Addr) : Prop where
  at_ : PySem.W.findIn K (.ref C) m = some (some (.ref f))
  fn : PySem.W.isFn K (.ref f) = true
  kp : PySem.W.keepIn K (.ref f) = true

section
variable {X : Cx} {pins : List (Addr × Obj)} {σ : St} {H : Hp} {s : Shared} {a C dx : Addr} {fs : List (Str × V)} {f : Str} {v : V} {A : Around} {E : Value → Shared → Prop}

theorem getattr_ok {b : Bool} {Q : Value → Shared → Prop} (I : Inv X pins σ H s) (e : H a = some (.ins C dx fs)) (c : Cls X.K C) (n : NoAttr X.K C f) (l : fs.lookup f = some v)
    (h : ∀ u s', Inv X pins σ H s' → RelV v u → Q u s') : wpAny (model X.prog X.w) A (getAttr (.ref a) f b) Q E s := by
  obtain ⟨mA, O, r, _, _, _⟩ := ins_get I.hok e
  obtain ⟨u, hu, ru⟩ := RelO.some_of (v := v) (o := mA f) (by rw [← l]; exact r f)
  exact get_map I.kIn O (c.get f) c.hd n hu (handed_of ru) (h u _ (I.tok _) ru)


theorem getmeth_ok {m : Str} {g : Addr} {pl : Sem Bool} {Q : Value × List Value → Shared → Prop} (I : Inv X pins σ H s) (e : H a = some (.ins C dx fs)) (c : Cls X.K C) (k : Meth X.K C m g) (l : fs.lookup m = none)
    (h : Q (.ref g, [.ref a]) s) : wpAny (model X.prog X.w) A (getMethod (.ref a) m pl) Q E s := by
  obtain ⟨mA, O, r, _, _, _⟩ := ins_get I.hok e
  have hn : mA m = none := RelO.none_of (by rw [← l]; exact r m)
  exact get_meth I.kIn O (c.get m) k.at_ k.fn hn h

theorem setattr_ok {y : V} {u : Value} {Q : Unit → Shared → Prop} (I : Inv X pins σ H s) (e : H a = some (.ins C dx fs)) (c : Cls X.K C) (n : NoAttr X.K C f) (hl : fs.length < 1000) (ry : RelV y u)
    (h : ∀ s', Inv X pins σ (upd H a (.ins C dx (putF f y fs))) s' → Q () s') : wpAny (model X.prog X.w) A (setAttr (.ref a) f u) Q E s := by
  obtain ⟨mA, O, r, wi, _, ho⟩ := ins_get I.hok e
  have hz : (fs.map (·.1)).length ≤ sizeLine := by rw [List.length_map, sizeLine_eq]; omega
  refine set_map I.kIn O c.sa c.po n.taker c.hd wi hz fun h' O' sb => h _ ?_
  have hd : ∃ o, h'.get? dx = some o := let ⟨o, _, _, e', _⟩ := O'.ns; ⟨o, e'⟩
  refine I.write (x := a) (e := dx) (by rw [e]; exact True.intro) (.inr ho) (fun b q hb z => (sb.2 b hb).trans z) hd ?_
  refine ⟨by rw [upd_ne O.ne]; exact ho, ?_, O.ne, O'.obj, _, O'.ns, fun g => ?_, fun g hg => ?_⟩
  · have := length_putF f y fs; omega
  · show RelO ((putF f y fs).lookup g) (if g = f then some u else mA g)
    rw [lookup_putF]
    by_cases q : g = f
    · rw [if_pos q, if_pos q]; exact ry
    · rw [if_neg q, if_neg q]; exact r g
  · by_cases q : g = f
    · rw [q]; exact (keys_putF f y fs).1
    · refine (keys_putF f y fs).2 g (wi g fun z => hg ?_)
      show (if g = f then some u else mA g) = none
      rw [if_neg q]; exact z

/-- a new instance, tracked, without attributes -/
theorem Inv.made (I : Inv X pins σ H s) : Inv X pins σ (upd (upd H s.heap.objs.size (.own (s.heap.objs.size + 1))) (s.heap.objs.size + 1) (.ins C s.heap.objs.size []))
    { s with heap := (s.heap.push PySem.W.emptyDict).push (PySem.W.instObj C s.heap.objs.size) } := by
  have e1 : (s.heap.push PySem.W.emptyDict).get? s.heap.objs.size = some PySem.W.emptyDict := Heap.get?_push_size s.heap rfl
  have e2 : ((s.heap.push PySem.W.emptyDict).push (PySem.W.instObj C s.heap.objs.size)).get? (s.heap.objs.size + 1) = some (PySem.W.instObj C s.heap.objs.size) := by
    have := Heap.get?_push_size (s.heap.push PySem.W.emptyDict) (o := PySem.W.instObj C s.heap.objs.size) rfl
    rwa [Heap.size_push] at this
  have e3 : (s.heap.push PySem.W.emptyDict).Ns s.heap.objs.size (fun _ => none) := ⟨PySem.W.emptyDict, #[], _, e1, rfl, (fun e he => absurd he (by simp)), fun _ => rfl⟩
  have I1 := I.laid (a := s.heap.objs.size) (o := .own (s.heap.objs.size + 1)) (h' := s.heap.push PySem.W.emptyDict) (t' := s.toks) (fun b u q => Heap.get?_push_of_some _ q) (Nat.le_refl _) ⟨_, e1⟩
  refine I1.laid (a := s.heap.objs.size + 1) (o := .ins C s.heap.objs.size []) (t' := s.toks) (fun b u q => Heap.get?_push_of_some _ q) (Nat.le_of_eq (Heap.size_push _ _)) ?_
  have ne : s.heap.objs.size ≠ s.heap.objs.size + 1 := Nat.ne_of_lt (Nat.lt_succ_self _)
  refine ⟨by rw [upd_ne ne, upd_same], Nat.zero_le _, ne, e2, fun _ => none, (Heap.Ns1.of_empty e3).at fun o q => Heap.get?_push_of_some _ q, fun _ => True.intro, fun y hy => absurd rfl hy⟩

/-- e.f where nothing but the object is asked: through attributeBase (super) and the last hold -/
theorem attr_of {prog : Program} {w : World} {env : Env} {e : Expr} {f : Str} {pos : Pos} {s : Shared} {Q : Value → Shared → Prop} (hb : attributeBase e f env (eval e env) = eval e env)
    (h : wpAny (model prog w) A (eval e env) (fun o s₁ => wpAny (model prog w) A (getAttr o f true) Q E s₁) E s) : wpAny (model prog w) A (eval (.Attribute e f pos) env) Q E s :=
  Attribute_any_ h (by rw [arm_eval_Attribute, hb])
end

/-! ### readings and rules -/
/-- e.f, an attribute of the instance -/
def tFld (K : PySem.W.Frag) (ta : TE) (f : Str) : TE := fun σ H Q => ta σ H fun x H1 => ∃ a C dx fs v, x = .ref a ∧ H1 a = some (.ins C dx fs) ∧ Cls K C ∧ NoAttr K C f ∧ fs.lookup f = some v ∧ Q v H1
/-- e.f = value -/
def sFld (K : PySem.W.Frag) (ta tv : TE) (f : Str) : TS := fun D σ H => tv σ H fun y H1 => ta σ H1 fun x H2 => ∃ a C dx fs, x = .ref a ∧ H2 a = some (.ins C dx fs) ∧ Cls K C ∧ NoAttr K C f ∧ fs.length < 1000 ∧
  D.nx σ (upd H2 a (.ins C dx (putF f y fs)))
/-- an augmented operator on two values -/
def InOp (X : Cx) (op : Operator) (rd : V → V → Hp → VK → Prop) : Prop :=
  ∀ (pins : List (Addr × Obj)) (s : Shared) (σ : St) (H : Hp) (x y : V) (u v : Value) (Q : VK), Inv X pins σ H s → RelV x u → RelV y v → rd x y H Q → wpAny (model X.prog X.w) X.A (inplaceOp op u v) (EP X pins σ Q) X.xe s
/-- e.f op= value -/
def sFldAug (K : PySem.W.Frag) (ta tv : TE) (rd : V → V → Hp → VK → Prop) (f : Str) : TS := fun D σ H => ta σ H fun x H1 => ∃ a C dx fs v, x = .ref a ∧ H1 a = some (.ins C dx fs) ∧ Cls K C ∧ NoAttr K C f ∧ fs.lookup f = some v ∧
  tv σ H1 fun y H2 => rd v y H2 fun z H3 => ∃ dx' fs', H3 a = some (.ins C dx' fs') ∧ fs'.length < 1000 ∧ D.nx σ (upd H3 a (.ins C dx' (putF f z fs')))

section
variable {X : Cx} {o e value : Expr} {f : Str} {pos pos' tpos : Pos} {ta tv : TE}
theorem pe_fld (he : PE X e ta) (hb : attributeBase e f X.env (eval e X.env) = eval e X.env) : PE X (.Attribute e f pos) (tFld X.K ta f) := by
  intro pins s σ H Q I h
  refine attr_of hb (thn (he pins s σ H _ I h) fun u s1 ⟨x, H1, I1, rx, a, C, dx, fs, v, ex, ea, c, n, l, q⟩ => ?_)
  subst ex
  obtain rfl : u = Value.ref a := rx
  exact getattr_ok I1 ea c n l fun u' s2 I2 ru => ⟨v, H1, I2, ru, q⟩
theorem ps_fld (ha : PE X o ta) (hv : PE X value tv) (hs : swapsWith value (some (.Attribute o f pos')) pos.line X.env = pure false) : PS X (.Assign [.Attribute o f pos'] value pos) (sFld X.K ta tv f) := by
  intro pins s σ H D I h
  refine plainObj_wpAny_Assign_Attribute (thn (hv pins s σ H _ I h) fun u s1 ⟨y, H1, I1, ry, q⟩ => thn (ha pins s1 σ H1 _ I1 q) fun ov s2 ⟨x, H2, I2, rx, a, C, dx, fs, ex, ea, c, n, l, q2⟩ => ?_) hs
  subst ex
  obtain rfl : ov = Value.ref a := rx
  exact setattr_ok I2 ea c n l ry fun s3 I3 => ⟨σ, _, I3, q2⟩
theorem ps_fldaug {op : Operator} {rd : V → V → Hp → VK → Prop} (ha : PE X o ta) (hv : PE X value tv) (hop : InOp X op rd) : PS X (.AugAssign (.Attribute o f tpos) op value pos) (sFldAug X.K ta tv rd f) := by
  intro pins s σ H D I h
  refine wpAny_AugAssign_AttributeAny (thn (ha pins s σ H _ I h) fun ov s1 ⟨x, H1, I1, rx, a, C, dx, fs, v, ex, ea, c, n, l, q⟩ => ?_)
  subst ex
  obtain rfl : ov = Value.ref a := rx
  refine getattr_ok I1 ea c n l fun u s2 I2 ru => thn (hv pins s2 σ H1 _ I2 q) fun w3 s3 ⟨y, H2, I3, ry, q3⟩ => thn (hop pins s3 σ H2 v y u w3 _ I3 ru ry q3) fun w4 s4 ⟨z, H3, I4, rz, dx', fs', ea', l', q4⟩ => ?_
  exact setattr_ok I4 ea' c n l' rz fun s5 I5 => ⟨σ, _, I5, q4⟩
def rAdd : V → V → Hp → VK → Prop := fun x y H Q => ∃ i j, x = .int i ∧ y = .int j ∧ Q (.int (i + j)) H
theorem in_add : InOp X .Add rAdd := by
  rintro pins s σ H x y u v Q I rx ry ⟨i, j, rfl, rfl, q⟩
  obtain ⟨t, rfl⟩ := (show ∃ t, u = Value.int i t from rx)
  obtain ⟨t', rfl⟩ := (show ∃ t', v = Value.int j t' from ry)
  exact PyProof.Rows.iadd_int ⟨.int (i + j), H, I.tok _, ⟨_, rfl⟩, q⟩

end

/-! ### isinstance -/
section
variable {X : Cx} {pins : List (Addr × Obj)} {σ : St} {H : Hp} {s : Shared} {A : Around} {E : Value → Shared → Prop} {Q : Value → Shared → Prop} {c : Value} {b : Bool}
end
end L2

namespace L2
open PySem PySem.Spec PyProof.Rows

/-! ### room -/
structure Room (k : Nat) (A : Around) : Prop where
  hd : A.handled = none
  dp : A.depth + 3 * k + 5 < recursionLimit
  un : A.units + 16 * k + 200 < cLine
theorem Room.mono {j k : Nat} {A : Around} (r : Room k A) (h : j ≤ k) : Room j A := ⟨r.hd, by have := r.dp; omega, by have := r.un; omega⟩
theorem Room.deeper {k : Nat} {A : Around} (r : Room (k + 1) A) (env : Env) : Room k (A.deeper env) :=
  ⟨r.hd, by have := r.dp; show A.depth + 1 + 3 * k + 5 < _; omega, by have := r.un; show A.units + 3 + 16 * k + 200 < _; omega⟩
theorem make_depth {A : Around} {C : Addr} {us : List Value} {kw : List (Str × Value)} : (A.under (.builtin "type.__call__" ⟨.ref C :: us, kw⟩)).depth = A.depth + 1 := by
  first | rfl | simp [Around.under, Code.weight, Code.isCreation, Code.isGuard, Code.isCaller, Code.frames, Code.isFrame, guardIds]
theorem make_units {A : Around} {C : Addr} {us : List Value} {kw : List (Str × Value)} : (A.under (.builtin "type.__call__" ⟨.ref C :: us, kw⟩)).units = A.units + 1 := by
  first | rfl | simp [Around.under, Code.cUnits, Code.frames, Code.isFrame]
theorem Room.make {k : Nat} {A : Around} (r : Room (k + 1) A) (C : Addr) (us : List Value) (kw : List (Str × Value)) : Room k (A.under (.builtin "type.__call__" ⟨.ref C :: us, kw⟩)) :=
  ⟨r.hd, by have := r.dp; rw [make_depth]; omega, by have := r.un; rw [make_units]; omega⟩
theorem Room.depth {k : Nat} {A : Around} (r : Room k A) : A.depth < recursionLimit := by have := r.dp; omega
theorem Room.units {k : Nat} {A : Around} (r : Room k A) : A.units + 64 < cLine := by have := r.un; omega

/-! ### argument lists and displays -/
def tNil : TA := fun _ H Q => Q [] H
def tCons (ta : TE) (tr : TA) : TA := fun σ H Q => ta σ H fun x H1 => tr σ H1 fun xs H2 => Q (x :: xs) H2
section
variable {X : Cx} {e : Expr} {es : List Expr} {te : TE} {t : TA} {pos : Pos}
theorem pa_nil : PA X [] tNil := fun _ _ _ _ H Q I h => Calls.spliced_nil ⟨[], H, I, .nil, h⟩
theorem pa_cons (ha : PE X e te) (hr : PA X es t) (hs : starEach (e :: es) X.env = (false, eval e X.env) :: starEach es X.env := by rfl) : PA X (e :: es) (tCons te t) := by
  intro pos pins s σ H Q I h
  rw [hs]
  show wpAny _ _ (spliced ((false, eval e X.env) :: backTo pos (starEach es X.env))) _ _ s
  refine Calls.spliced_cons (thn (ha pins s σ H _ I h) fun u s1 ⟨x, H1, I1, r1, q1⟩ => ?_)
  exact thn (hr pos pins s1 σ H1 _ I1 q1) fun us s2 ⟨xs, H2, I2, r2, q2⟩ => ⟨x :: xs, H2, I2, .cons r1 r2, q2⟩

/-- a tuple, a list of written items -/
def tTup (t : TA) : TE := fun σ H Q => t σ H fun xs H1 => xs.length ≤ sizeLine ∧ ∀ p, H1 p = none → Q (.ref p) (upd H1 p (.tup xs))
def tLst (t : TA) : TE := fun σ H Q => t σ H fun xs H1 => xs.length ≤ sizeLine ∧ ∀ p, H1 p = none → Q (.ref p) (upd H1 p (.lst xs))
theorem pe_tup {x1} (h : PA X es t) : PE X (.Tuple es x1 pos) (tTup t) := by
  intro pins s σ H Q I hq
  refine wpAny_Tuple_spliced (thn (h pos pins s σ H _ I hq) fun us s1 ⟨xs, H1, I1, r, z, q⟩ => ⟨by rw [← r.length]; exact z, ?_⟩)
  have hf : H1 s1.heap.objs.size = none := I1.hok.fresh (Nat.le_refl _)
  refine ⟨.ref s1.heap.objs.size, upd H1 s1.heap.objs.size (.tup xs), I1.laid (t' := s1.toks) (fun b u e => Heap.get?_push_of_some _ e) (Nat.le_refl _) ?_, rfl, q _ hf⟩
  exact ⟨z, us, r, ⟨_, Heap.get?_push_size _ rfl, rfl, _, rfl⟩⟩
theorem pe_lst (h : PA X es t) : PE X (.List es pos) (tLst t) := by
  intro pins s σ H Q I hq
  refine wpAny_List_spliced (thn (h pos pins s σ H _ I hq) fun us s1 ⟨xs, H1, I1, r, z, q⟩ => ⟨by rw [← r.length]; exact z, ?_⟩)
  have hf : H1 s1.heap.objs.size = none := I1.hok.fresh (Nat.le_refl _)
  refine ⟨.ref s1.heap.objs.size, upd H1 s1.heap.objs.size (.lst xs), I1.laid (t' := s1.toks) (fun b u e => Heap.get?_push_of_some _ e) (Nat.le_refl _) ?_, rfl, q _ hf⟩
  exact ⟨z, us, 0, r, Heap.get?_push_size _ rfl⟩
end

/-! ### what a def promises -/
/-- a def's promise: the bound arguments in the parameters' order, the heap, the wanted end, the wanted exception -/
abbrev Sp := List V → Hp → VK → XK → Prop
/-- how an exception lies behind a call (file 08 gives it): the callers' frames, abstract heap and state ahead of the call, the wish, the exception, the state -/
abbrev CXT := List Env → Hp → Shared → XK → Value → Shared → Prop

/-- the state at a call -/
structure Env0 (P : Program) (w : World) (K : PySem.W.Frag) (mg : Str → Option Value) (base : Heap) (A : Around) (outer : List Env) (s : Shared) (H : Hp) : Prop where
  frames : A.frames = some outer
  mod : Mod K mg base
  bs : ∀ b o, base.get? b = some o → s.heap.get? b = some o ∧ H b = none
  bsz : base.objs.size ≤ s.heap.objs.size
  funs : s.heap.FunFrames base outer
  frf : ∀ b ∈ frs outer, H b = none
  hok : HOk P w H s.heap
  bare : AllBare s.gens
/-- a call's end -/
def CE (outer : List Env) (P : Program) (w : World) (H : Hp) (s : Shared) (Q : VK) (u : Value) (s' : Shared) : Prop :=
  ∃ v H', s'.os = s.os ∧ AllBare s'.gens ∧ Un (frs outer) [] H H' s.heap s'.heap ∧ HOk P w H' s'.heap ∧ RelV v u ∧ Q v H'
def CR (CX : CXT) (outer : List Env) (P : Program) (w : World) (H : Hp) (s : Shared) (Q : VK) (E : XK) (r : Result) (s' : Shared) : Prop :=
  match r with
  | .ok (.ret u) => CE outer P w H s Q u s'
  | .ok _ => False
  | .error e => CX outer H s E e s'
structure FnOk (P : Program) (w : World) (K : PySem.W.Frag) (mg : Str → Option Value) (base : Heap) (CX : CXT) (k : Nat) (f : Addr) (fd : FuncData) (ps : List Str) (sp : Sp) : Prop where
  len : ∀ vs H Q E, sp vs H Q E → vs.length = ps.length
  run : ∀ (A : Around) (outer : List Env) (s : Shared) (H : Hp) (args : Args) (us : List Value) (vs : List V) (Q : VK) (E : XK), Room k A → Env0 P w K mg base A outer s H → BindsTo s fd args (ps.zip us) → Vals vs us → sp vs H Q E →
    codeAny (model P w) A (.call (.ref f) args) (CR CX outer P w H s Q E) s

theorem Env0.make {P : Program} {w : World} {K : PySem.W.Frag} {mg : Str → Option Value} {base : Heap} {A : Around} {outer : List Env} {s : Shared} {H : Hp} (e : Env0 P w K mg base A outer s H) (C : Addr) (us : List Value) (kw : List (Str × Value)) :
    Env0 P w K mg base (A.under (.builtin "type.__call__" ⟨.ref C :: us, kw⟩)) outer s H := ⟨by first | exact e.frames | (simpa [Around.under, Code.envs, Code.isFrame, pushEnvs] using e.frames), e.mod, e.bs, e.bsz, e.funs, e.frf, e.hok, e.bare⟩

section
variable {X : Cx} {pins : List (Addr × Obj)} {σ : St} {H : Hp} {s s' : Shared}
/-- from a body: what a callee wants -/
theorem Inv.env0 (I : Inv X pins σ H s) : Env0 X.prog X.w X.K X.mg X.base X.A X.stack s H :=
  ⟨I.ok.frames, I.ok.mod, I.bs, Nat.le_trans I.ok.bsz I.sz, I.stack, I.stkFree, I.hok, I.bare⟩
/-- behind a call -/
theorem Inv.after {Q : VK} {u : Value} (I : Inv X pins σ H s) (h : CE X.stack X.prog X.w H s Q u s') : EP X pins σ Q u s' := by
  obtain ⟨v, H', os, bare, un, hok, r, q⟩ := h
  obtain ⟨hh, g, d, t, os'⟩ := s'
  obtain rfl : os' = s.os := os
  exact ⟨v, H', I.call (h' := hh) (g' := g) (d' := d) (t' := t) (ch := []) un hok bare (fun b z => absurd z (by simp)), r, q⟩
end

/-! ### calls -/
/-- f(..): the written arguments, then the defaults dvs; E: what is wanted of an exception -/
def tCall (sp : Sp) (dvs : List V) (E : XK) (t : TA) : TE := fun σ H Q => t σ H fun vs H1 => sp (vs ++ dvs) H1 Q E
/-- o.m(..) of an instance of the class at C -/
def tMeth (C : Addr) (m : Str) (sp : Sp) (dvs : List V) (E : XK) (ta : TE) (t : TA) : TE := fun σ H Q => ta σ H fun x H1 => ∃ a dx fs, x = .ref a ∧ H1 a = some (.ins C dx fs) ∧ fs.lookup m = none ∧
  t σ H1 fun vs H2 => sp (x :: (vs ++ dvs)) H2 Q E
/-- C(..): a new instance and its dict, then __init__ -/
def tMake (C : Addr) (sp : Sp) (dvs : List V) (E : XK) (t : TA) : TE := fun σ H Q => t σ H fun vs H1 => ∀ x dx, H1 x = none → H1 dx = none → dx ≠ x →
  sp (.ref x :: (vs ++ dvs)) (upd (upd H1 dx (.own x)) x (.ins C dx [])) (fun v H2 => v = .non ∧ Q (.ref x) H2) E

/-- how the parameters are bound: us the positional arguments, kw the keywords' values by name, ds the defaults that fill up -/
def Binds (K : PySem.W.Frag) (fd : FuncData) (ps : List Str) (ds : List Value) : Prop :=
  ∀ (s : Shared) (us : List Value), K.In s.heap → (us ++ ds).length = ps.length → BindsTo s fd ⟨us, []⟩ (ps.zip (us ++ ds))
/-- every parameter is given -/
theorem Binds.all {K : PySem.W.Frag} {fd : FuncData} {ps : List Str} (h : ∀ us : List Value, us.length = ps.length → bindArgs fd ⟨us, []⟩ = pure (ps.zip us)) : Binds K fd ps [] := fun s us _ hl => by
  rw [List.append_nil] at hl ⊢
  exact .of_eq (h us hl)

/-- an exception of a callee reaches what this body wants of exceptions -/
def Passes (CX : CXT) (X : Cx) (E : XK) : Prop := ∀ (pins : List (Addr × Obj)) (σ : St) (H : Hp) (s : Shared) (e : Value) (s' : Shared), Inv X pins σ H s → CX X.stack H s E e s' → X.xe e s'

section
variable {X : Cx} {CX : CXT} {k : Nat} {f C : Addr} {fd : FuncData} {ps : List Str} {sp : Sp} {dvs : List V} {ds : List Value} {E : XK} {x m : Str} {p pos apos : Pos} {e o : Expr} {es : List Expr} {ta : TE} {t : TA}

/-- the callee runs -/
theorem run_fn {pins : List (Addr × Obj)} {σ : St} {H : Hp} {s : Shared} {Q : VK} {us : List Value} {vs : List V} (F : FnOk X.prog X.w X.K X.mg X.base CX k f fd ps sp) (hr : Room k X.A) (hb : Binds X.K fd ps ds) (hd : Vals dvs ds) (hx : Passes CX X E)
    (I : Inv X pins σ H s) (r : Vals vs us) (h : sp (vs ++ dvs) H Q E) : wpAny (model X.prog X.w) X.A (call (.ref f) us) (EP X pins σ Q) X.xe s := by
  have r2 : Vals (vs ++ dvs) (us ++ ds) := r.append hd
  have hl : (us ++ ds).length = ps.length := by rw [← r2.length]; exact F.len _ _ _ _ h
  refine wpAny_call (codeAny_mono (F.run X.A X.stack s H ⟨us, []⟩ (us ++ ds) (vs ++ dvs) Q E hr I.env0 (hb s us I.kIn hl) r2 h) fun r s' hq => ?_)
  cases r with
  | error e => exact hx pins σ H s e s' I hq
  | ok fl =>
    cases fl with
    | ret u => exact I.after hq
    | next => exact False.elim hq
    | brk => exact False.elim hq
    | cont => exact False.elim hq

theorem pe_call (F : FnOk X.prog X.w X.K X.mg X.base CX k f fd ps sp) (hr : Room k X.A) (hg : Gl X x) (hm : X.mg x = some (.ref f)) (hk : PySem.W.keepIn X.K (.ref f) = true) (hb : Binds X.K fd ps ds) (hd : Vals dvs ds) (hx : Passes CX X E)
    (ha : PA X (e :: es) t) (hdb : (x == ("__debug__" : Str)) = false := by decide) (he : starEach (e :: es) X.env = (false, eval e X.env) :: starEach es X.env := by rfl) (hpl : (backTo pos (starEach es X.env)).any (·.1) = false := by rfl) :
    PE X (.Call (.Name x p) (e :: es) [] pos) (tCall sp dvs E t) := by
  intro pins s σ H Q I h
  refine wpAny_Call_Name_kw (ld_glob I hg hm ?_ hdb)
  refine PySem.W.callWith_K (h₀ := X.base) I.ok.mod.kin hk (thn (ha pos pins s σ H _ I h) fun us s1 ⟨vs, H1, I1, r, q⟩ => ⟨I1.kIn, ?_⟩) he hpl
  exact run_fn F hr hb hd hx I1 r q
theorem pe_call0 (F : FnOk X.prog X.w X.K X.mg X.base CX k f fd ps sp) (hr : Room k X.A) (hg : Gl X x) (hm : X.mg x = some (.ref f)) (hk : PySem.W.keepIn X.K (.ref f) = true) (hb : Binds X.K fd ps ds) (hd : Vals dvs ds) (hx : Passes CX X E)
    (hdb : (x == ("__debug__" : Str)) = false := by decide) : PE X (.Call (.Name x p) [] [] pos) (tCall sp dvs E tNil) := by
  intro pins s σ H Q I h
  refine wpAny_Call_Name_kw (ld_glob I hg hm ?_ hdb)
  exact PySem.W.callWith_K0 I.kIn hk (run_fn (us := []) F hr hb hd hx I .nil h)

/-- o.m(e, ..) -/
theorem pe_meth {pl : Sem Bool} (he : PE X o ta) (c : Cls X.K C) (hm : Meth X.K C m f) (F : FnOk X.prog X.w X.K X.mg X.base CX k f fd ps sp) (hr : Room k X.A) (hb : Binds X.K fd ps ds) (hd : Vals dvs ds) (hx : Passes CX X E) (ha : PA X (e :: es) t)
    (hst : starEach (e :: es) X.env = (false, eval e X.env) :: starEach es X.env := by rfl) (hpl : (backTo pos (starEach es X.env)).any (·.1) = false := by rfl)
    (ht : eval (.Call (.Attribute o m apos) (e :: es) [] pos) X.env = (do
      let ov ← eval o X.env
      standAt apos.atName
      let (f, first) ← holding [ov] (getMethod ov m pl)
      callWith pos f first (backTo pos (starEach (e :: es) X.env)) (backToKw pos (keywordEach [] X.env))) := by rfl) :
    PE X (.Call (.Attribute o m apos) (e :: es) [] pos) (tMeth C m sp dvs E ta t) := by
  intro pins s σ H Q I h
  refine PySem.W.methodCall_KW (pl := pl) (thn (he pins s σ H _ I h) fun u s1 ⟨x, H1, I1, rx, a, dx, fs, ex, ea, l, q⟩ => ?_) ht
  subst ex
  obtain rfl : u = Value.ref a := rx
  refine getmeth_ok I1 ea c hm l ?_
  refine PySem.W.callWith_K (first := [.ref a]) (h₀ := X.base) I.ok.mod.kin hm.kp (thn (ha pos pins s1 σ H1 _ I1 q) fun us s2 ⟨vs, H2, I2, r, q2⟩ => ⟨I2.kIn, ?_⟩) hst hpl
  exact run_fn (us := .ref a :: us) (vs := .ref a :: vs) F hr hb hd hx I2 (.cons rfl r) q2
/-- o.m() -/
theorem pe_meth0 {pl : Sem Bool} (he : PE X o ta) (c : Cls X.K C) (hm : Meth X.K C m f) (F : FnOk X.prog X.w X.K X.mg X.base CX k f fd ps sp) (hr : Room k X.A) (hb : Binds X.K fd ps ds) (hd : Vals dvs ds) (hx : Passes CX X E)
    (ht : eval (.Call (.Attribute o m apos) [] [] pos) X.env = (do
      let ov ← eval o X.env
      standAt apos.atName
      let (f, first) ← holding [ov] (getMethod ov m pl)
      callWith pos f first (backTo pos (starEach [] X.env)) (backToKw pos (keywordEach [] X.env))) := by rfl) :
    PE X (.Call (.Attribute o m apos) [] [] pos) (tMeth C m sp dvs E ta tNil) := by
  intro pins s σ H Q I h
  refine PySem.W.methodCall_KW (pl := pl) (thn (he pins s σ H _ I h) fun u s1 ⟨x, H1, I1, rx, a, dx, fs, ex, ea, l, q⟩ => ?_) ht
  subst ex
  obtain rfl : u = Value.ref a := rx
  refine getmeth_ok I1 ea c hm l ?_
  exact PySem.W.callWith_K0 (first := [.ref a]) I1.kIn hm.kp (run_fn (us := [.ref a]) (vs := [.ref a]) F hr hb hd hx I1 (.cons rfl .nil) q)

/-- what a class must have to be made -/
structure Mk (K : PySem.W.Frag) (C f : Addr) : Prop where
  makes : PySem.W.makesIn K C = true
  init : PySem.W.findIn K (.ref C) "__init__" = some (some (.ref f))
  fn : PySem.W.isFn K (.ref f) = true
  kp : PySem.W.keepIn K (.ref C) = true

theorem run_make {pins : List (Addr × Obj)} {σ : St} {H : Hp} {s : Shared} {Q : VK} {us : List Value} {vs : List V} (M : Mk X.K C f) (F : FnOk X.prog X.w X.K X.mg X.base CX k f fd ps sp) (hr : Room (k + 1) X.A) (hb : Binds X.K fd ps ds) (hd : Vals dvs ds)
    (hx : Passes CX X E) (I : Inv X pins σ H s) (r : Vals vs us)
    (h : ∀ x dx, H x = none → H dx = none → dx ≠ x → sp (.ref x :: (vs ++ dvs)) (upd (upd H dx (.own x)) x (.ins C dx [])) (fun v H2 => v = .non ∧ Q (.ref x) H2) E) :
    wpAny (model X.prog X.w) X.A (call (.ref C) us) (EP X pins σ Q) X.xe s := by
  have hq := h (s.heap.objs.size + 1) s.heap.objs.size (I.hok.fresh (Nat.le_succ _)) (I.hok.fresh (Nat.le_refl _)) (Nat.ne_of_lt (Nat.lt_succ_self _))
  have I2 := Inv.made (C := C) I
  have r2 : Vals (V.ref (s.heap.objs.size + 1) :: (vs ++ dvs)) (Value.ref (s.heap.objs.size + 1) :: (us ++ ds)) := .cons rfl (r.append hd)
  have hl : (Value.ref (s.heap.objs.size + 1) :: us ++ ds).length = ps.length := by
    have e := r2.length
    rw [F.len _ _ _ _ hq] at e
    exact e.symm
  refine wpAny_call (make_map (f := f) I.kIn M.makes M.init (beq_iff_eq.mp M.fn) (codeAny_mono (F.run _ X.stack _ _ ⟨Value.ref (s.heap.objs.size + 1) :: us, []⟩ (Value.ref (s.heap.objs.size + 1) :: (us ++ ds)) _ _ E (hr.make C us [])
    (I2.env0.make C us []) (hb _ (Value.ref (s.heap.objs.size + 1) :: us) I2.kIn hl) r2 hq) fun r s' hq' => ?_))
  cases r with
  | error e => exact hx pins σ _ _ e s' I2 hq'
  | ok fl =>
    cases fl with
    | ret u =>
      obtain ⟨v, H', I3, rv, ev, q3⟩ := I2.after hq'
      subst ev
      exact ⟨rv, ⟨V.ref (s.heap.objs.size + 1), H', I3, rfl, q3⟩⟩
    | next => exact False.elim hq'
    | brk => exact False.elim hq'
    | cont => exact False.elim hq'
theorem pe_make0 (M : Mk X.K C f) (F : FnOk X.prog X.w X.K X.mg X.base CX k f fd ps sp) (hr : Room (k + 1) X.A) (hg : Gl X x) (hm : X.mg x = some (.ref C)) (hb : Binds X.K fd ps ds) (hd : Vals dvs ds) (hx : Passes CX X E)
    (hdb : (x == ("__debug__" : Str)) = false := by decide) : PE X (.Call (.Name x p) [] [] pos) (tMake C sp dvs E tNil) := by
  intro pins s σ H Q I h
  refine wpAny_Call_Name_kw (ld_glob I hg hm ?_ hdb)
  exact PySem.W.callWith_K0 I.kIn M.kp (run_make (us := []) M F hr hb hd hx I .nil h)
end

/-! ### keywords -/
section
variable {X : Cx} {CX : CXT} {k : Nat} {f C : Addr} {fd : FuncData} {ps ks : List Str} {sp : Sp} {E : XK} {x m : Str} {p pos apos kpos : Pos} {e o : Expr} {es : List Expr} {kws : List Keyword} {te ta : TE} {t tk : TA} {nm : Option Str}

variable {g : List Value → List Value → List Value} {gV : List V → List V → List V}
end

/-! ### a def's body keeps its promise -/
/-- names: the parameters first -/
structure FnScope (N P : List Str) (sc : Scope) : Prop where
  kind : sc.kind = .function
  co : sc.isCoroutine = false
  gen : sc.isGenerator = false
  nd : N.Nodup
  pre : N.take P.length = P
  par : ∀ x ∈ P, sc.names.lookup x = some .local ∨ sc.names.lookup x = some .cell
  nofree : ∀ y ∈ sc.names, y.2 ≠ .free

theorem bindL_out {kindOf : Str → Option NameKind} {x : Str} : ∀ {binds : List (Str × Value)} {m : Str → Option Value}, (∀ v, (x, v) ∉ binds) → bindL kindOf binds m x = m x
  | [], _, _ => rfl
  | (n, v) :: r, m, h => by
    unfold bindL
    rw [bindL_out fun w hw => h w (List.mem_cons_of_mem _ hw)]
    split
    · have : x ≠ n := by rintro rfl; exact h v List.mem_cons_self
      simp [this]
    · rfl
theorem bindC_out {kindOf : Str → Option NameKind} {x : Str} : ∀ {binds : List (Str × Value)} {m : Str → Option Value}, (∀ v, (x, v) ∉ binds) → bindC kindOf binds m x = m x
  | [], _, _ => rfl
  | (n, v) :: r, m, h => by
    unfold bindC
    rw [bindC_out fun w hw => h w (List.mem_cons_of_mem _ hw)]
    split
    · rfl
    · have : x ≠ n := by rintro rfl; exact h v List.mem_cons_self
      simp [this]
theorem bindL_get {kindOf : Str → Option NameKind} {x : Str} {v : Value} : ∀ {P : List Str} {vs : List Value} {i : Nat} {m : Str → Option Value}, P.Nodup → P[i]? = some x → vs[i]? = some v → kindOf x = some .local →
    bindL kindOf (P.zip vs) m x = some v
  | [], _, _, _, _, h, _, _ => by simp at h
  | _ :: _, [], _, _, _, _, h, _ => by simp at h
  | p :: P, w :: vs, 0, m, nd, h1, h2, hk => by
    simp at h1 h2; subst h1; subst h2
    show bindL kindOf ((p, w) :: P.zip vs) m p = _
    unfold bindL
    rw [bindL_out fun v hv => (List.nodup_cons.mp nd).1 (List.of_mem_zip hv).1, if_pos hk]
    simp
  | p :: P, w :: vs, i + 1, m, nd, h1, h2, hk => by
    show bindL kindOf ((p, w) :: P.zip vs) m x = _
    unfold bindL
    exact bindL_get (i := i) (List.nodup_cons.mp nd).2 (by simpa using h1) (by simpa using h2) hk
theorem bindC_get {kindOf : Str → Option NameKind} {x : Str} {v : Value} : ∀ {P : List Str} {vs : List Value} {i : Nat} {m : Str → Option Value}, P.Nodup → P[i]? = some x → vs[i]? = some v → kindOf x ≠ some .local →
    bindC kindOf (P.zip vs) m x = some v
  | [], _, _, _, _, h, _, _ => by simp at h
  | _ :: _, [], _, _, _, _, h, _ => by simp at h
  | p :: P, w :: vs, 0, m, nd, h1, h2, hk => by
    simp at h1 h2; subst h1; subst h2
    show bindC kindOf ((p, w) :: P.zip vs) m p = _
    unfold bindC
    rw [bindC_out fun v hv => (List.nodup_cons.mp nd).1 (List.of_mem_zip hv).1, if_neg hk]
    simp
  | p :: P, w :: vs, i + 1, m, nd, h1, h2, hk => by
    show bindC kindOf ((p, w) :: P.zip vs) m x = _
    unfold bindC
    exact bindC_get (i := i) (List.nodup_cons.mp nd).2 (by simpa using h1) (by simpa using h2) hk

/-- the names' values at the entry -/
def start (N : List Str) (vs : List V) : St := vs.map some ++ List.replicate (N.length - vs.length) none

/-- the context of a def's body, at its entry; an exception leaves the frame, then lies as CX says -/
def cxOf (CX : CXT) (P : Program) (w : World) (K : PySem.W.Frag) (mg : Str → Option Value) (base : Heap) (N : List Str) (qual : Str) (scope : Scope) (f : Addr) (cd : Value) (A : Around) (outer : List Env) (s : Shared) (H : Hp) (E : XK) : Cx where
  prog := P
  w := w
  K := K
  mg := mg
  base := base
  A := A.deeper (envOfC qual scope s.heap.objs.size f cd)
  N := N
  s_0 := s
  H_0 := H
  env := envOfC qual scope s.heap.objs.size f cd
  outer := outer
  stack := envOfC qual scope s.heap.objs.size f cd :: outer
  ex := []
  calm := true
  fn := fun _ => true
  pn := []
  xe := fun e s' => wpAny (model P w) (A.deeper (envOfC qual scope s.heap.objs.size f cd)) (leaving (envOfC qual scope s.heap.objs.size f cd) e) (fun _ s'' => CX outer H s E e s'') (fun e' s'' => CX outer H s E e' s'') s'

theorem cell_has {sc : Scope} {n : Nat} {x : Str} (h : sc.names.lookup x = some .cell) : ∃ c, (cellsFrom n sc.names []).lookup x = some c := by
  have q := PySem.W.cellsFrom_some sc.names n [] (.inl h)
  exact Option.isSome_iff_exists.mp q

theorem inv_start {CX : CXT} {P : Program} {w : World} {K : PySem.W.Frag} {mg : Str → Option Value} {base : Heap} {N ps : List Str} {qual : Str} {scope : Scope} {f : Addr} {cd : Value} {A : Around} {outer : List Env} {s s1 : Shared} {H : Hp} {E : XK} {us : List Value} {vs : List V}
    (S : FnScope N ps scope) (hd : A.handled = none) (e0 : Env0 P w K mg base A outer s H) (hl : vs.length = ps.length) (r : Vals vs us)
    (x : InCallC s s.heap.objs.size (bindL (envOfC qual scope s.heap.objs.size f cd).kindOf (ps.zip us) fun _ => none) (cellsFrom (s.heap.objs.size + 1) scope.names []) (bindC (envOfC qual scope s.heap.objs.size f cd).kindOf (ps.zip us) fun _ => none) s1) :
    Inv (cxOf CX P w K mg base N qual scope f cd A outer s H E) [] (start N vs) H s1 := by
  have hpl : ps.length ≤ N.length := by have := congrArg List.length S.pre; rw [List.length_take] at this; omega
  obtain ⟨h1, tk, rfl, hk⟩ := x.done
  have noA : ∀ b : Addr, b ∉ (cxOf CX P w K mg base N qual scope f cd A outer s H E).ex := fun b z => absurd (show b ∈ ([] : List Addr) from z) (by simp)
  refine ⟨⟨e0.mod, S.kind, rfl, rfl, Nat.le_refl _, fun y z c h1 h2 => ?_, fun y hy => ?_, fun y c _ h => ?_, fun _ => hd, Around.frames_deeper e0.frames, .inr ⟨rfl, rfl⟩, fun b z => absurd z (noA b), e0.bs, e0.bsz, fun b _ _ => noA b, fun b z => absurd z (noA b), e0.funs, e0.frf⟩,
    rfl, e0.bare, Un.kept hk, ⟨_, x.toInCall.ns, fun i y v h1 h2 h3 => ?_⟩, fun y c h => ⟨_, x.cell y c h⟩, e0.hok.fresh (Nat.le_refl _), fun y c h => ?_, fun p hp => absurd (show p ∈ ([] : List (Addr × Obj)) from hp) (by simp), e0.hok.kept hk, ?_⟩
  · exact name_of_addr x.apart (PySem.mem_of_lookup h1) (PySem.mem_of_lookup h2)
  · have hy : scope.names.lookup y = some .cell ∨ scope.names.lookup y = some .free := hy
    rcases hy with hy | hy
    · exact cell_has hy
    · exact absurd rfl (S.nofree _ (PySem.mem_of_lookup hy))
  · exact Nat.le_of_lt (x.above y c (PySem.mem_of_lookup h))
  · have hi : i < vs.length := by
      unfold start at h2
      by_cases hi : i < vs.length
      · exact hi
      · rw [List.getElem?_append_right (by simpa using hi)] at h2
        rw [List.getElem?_replicate] at h2
        split at h2 <;> cases h2
    have ha : vs[i]? = some v := by
      unfold start at h2
      rw [List.getElem?_append_left (by simpa using hi), List.getElem?_map] at h2
      cases e : vs[i]? with
      | none => rw [e] at h2; cases h2
      | some a => rw [e] at h2; cases h2; rfl
    obtain ⟨u, hu, rv⟩ := r.get ha
    have hp : ps[i]? = some y := by
      rw [← S.pre, List.getElem?_take_of_lt (by omega)]; exact h1
    have ndP : ps.Nodup := by rw [← S.pre]; exact S.nd.sublist (List.take_sublist _ _)
    refine ⟨u, rv, ?_⟩
    rcases S.par y (List.mem_of_getElem? hp) with k | k
    · exact .inl ⟨k, bindL_get ndP hp hu k⟩
    · obtain ⟨c, e⟩ := cell_has (n := s.heap.objs.size + 1) k
      refine .inr ⟨.inl k, c, e, ?_⟩
      have q := x.cell y c e
      rw [bindC_get ndP hp hu (by show scope.names.lookup y ≠ _; rw [k]; decide)] at q
      exact q
  · exact e0.hok.fresh (Nat.le_of_lt (x.above y c (PySem.mem_of_lookup h)))
  · unfold start
    show _ = N.length
    rw [List.length_append, List.length_map, List.length_replicate]
    omega

/-- THE RULE: a def (or a method) of the text, by its body. The body's reading t is chosen for each entry; it is run at the parameters' values -/
theorem fn_of {CX : CXT} {P : Program} {w : World} {K : PySem.W.Frag} {mg : Str → Option Value} {base : Heap} {k : Nat} {f : Addr} {name qual : Str} {params : Arguments} {body : List Stmt} {scope : Scope} {dV kV doc pm cdv ct oc : Value} {an od : Option Addr}
    {osl : Array (Option Value)} {N ps : List Str} {sp : Sp} (lk : K.lookup f = some ⟨oc, od, .func (PySem.W.fnOf name qual params body scope dV kV doc pm an cdv ct), osl⟩) (hcd : PySem.W.codeIn K cdv qual = true) (S : FnScope N ps scope)
    (len : ∀ vs H Q E, sp vs H Q E → vs.length = ps.length)
    (hbody : ∀ (A : Around) (outer : List Env) (s : Shared) (H : Hp) (vs : List V) (Q : VK) (E : XK), Room k (A.deeper (envOfC qual scope s.heap.objs.size f cdv)) → sp vs H Q E →
      ∃ t, PSs (cxOf CX P w K mg base N qual scope f cdv A outer s H E) body t ∧ t { nx := fun _ H' => Q .non H', rt := Q } (start N vs) H) :
    FnOk P w K mg base CX (k + 1) f (PySem.W.fnOf name qual params body scope dV kV doc pm an cdv ct) ps sp := by
  refine ⟨len, fun A outer s H args us vs Q E hr e0 hb r hsp => ?_⟩
  have hl := len _ _ _ _ hsp
  have KX : K.In s.heap := e0.mod.kin.keeps fun b o e => (e0.bs b o e).1
  have lim : s.heap.NoLimit := e0.mod.nolimit.keeps fun b o e => (e0.bs b o e).1
  have hkind : ∀ y ∈ ps.zip us, scope.names.lookup y.1 = some .local ∨ (scope.names.lookup y.1 = some .cell ∧ ((cellsFrom (s.heap.objs.size + 1) scope.names []).lookup y.1).isSome = true) := fun ⟨n, v⟩ hy => by
    rcases S.par n (List.of_mem_zip hy).1 with q | q
    · exact .inl q
    · exact .inr ⟨q, PySem.W.cellsFrom_some _ _ _ (.inl q)⟩
  refine codeAny_call_function hr.depth (KX _ _ lk) rfl S.co S.gen rfl (PySem.W.codeRec_of KX hcd) (hb _ _ _ _ ?_)
  refine wpAny_newFunctionEnv_cells S.kind hkind fun env he s1 x => ?_
  subst he
  refine ⟨lim.keeps x.toInCall.keep, codeAny_func ?_⟩
  obtain ⟨t, ht, hq⟩ := hbody A outer s H vs Q E (hr.deeper _) hsp
  have I : Inv (cxOf CX P w K mg base N qual scope f cdv A outer s H E) [] (start N vs) H s1 := inv_start S hr.hd e0 hl r x
  refine wpAny_mono (ht [] s1 (start N vs) H _ I hq) (fun fl s' hs => ?_) fun e s' hs => hs
  have fin : ∀ {σ' : St} {H' : Hp} {v : V} {u : Value}, Inv (cxOf CX P w K mg base N qual scope f cdv A outer s H E) [] σ' H' s' → RelV v u → Q v H' → CE outer P w H s Q u s' :=
    fun {σ' H' v u} J rv q => ⟨v, H', J.os, J.bare, J.base, J.hok, rv, q⟩
  cases fl with
  | ret u =>
    obtain ⟨v, σ', H', J, rv, q⟩ := hs
    exact fin J rv q
  | next =>
    obtain ⟨σ', H', J, q⟩ := hs
    exact fin (v := V.non) (u := Value.none) J rfl q
  | brk =>
    obtain ⟨_, _, _, q⟩ := hs
    exact False.elim q
  | cont =>
    obtain ⟨_, _, _, q⟩ := hs
    exact False.elim q
end L2

namespace L2
open PySem PySem.Spec PyProof.Rows
section
variable {X : Cx} {x : Str} {p pos : Pos} {e : Expr} {es : List Expr} {t : TA} {id T : String} {r : List V → Hp → VK → Prop}

def tCB (r : List V → Hp → VK → Prop) (t : TA) : TE := fun σ H Q => t σ H fun vs H1 => r vs H1 Q
/-- f(e, ..), f a built-in function -/
theorem pe_callB (hc : CallR X (.builtin id) r) (hg : Gl X x) (hm : X.mg x = none) (hv : bootBuiltins x = some (.builtin id)) (ha : PA X (e :: es) t) (hn : x ≠ "__name__" := by decide) (hdb : (x == ("__debug__" : Str)) = false := by decide)
    (he : starEach (e :: es) X.env = (false, eval e X.env) :: starEach es X.env := by rfl) (hpl : (backTo pos (starEach es X.env)).any (·.1) = false := by rfl) : PE X (.Call (.Name x p) (e :: es) [] pos) (tCB r t) := by
  intro pins s σ H Q I h
  refine wpAny_Call_Name_kw (ld_blt I hg hm hv ?_ hn hdb)
  exact PyProof.Rows.callWith_builtin1 (thn (ha pos pins s σ H _ I h) fun us s1 ⟨vs, H1, I1, r1, q1⟩ => hc pins s1 σ H1 vs us Q I1 r1 q1) he hpl
end
end L2

namespace HT
open PySem PyProof.Rows



section
open PySem.SeqAt
open PySem.AutoSeq1 (wpAny_loadPart')
open PySem.MeetsSeq PySem.MeetsSeq2 PySem.MeetsSeq3

end

section
variable {prog : Program} {w : World} {A : Around} {E : Value → Shared → Prop} {s : Shared}



/-! ### t[a:b], not the whole -/
/-- a slice's bound as a place among n (d where it is left out) -/
def sIx (n d : Nat) : Option Int → Nat
  | none => d
  | some v => if v < 0 then (v + (n : Int)).toNat else min v.toNat n
theorem sIx_nat (n d k : Nat) : sIx n d (some (k : Int)) = min k n := by
  show (if (k : Int) < 0 then ((k : Int) + (n : Int)).toNat else min (k : Int).toNat n) = min k n
  rw [if_neg (by omega), Int.toNat_natCast]

end
end HT

namespace L2
open PySem PySem.Spec PyProof.Rows

/-! ### the parts of a slice -/
abbrev TO := St → Hp → (Option Int → Hp → Prop) → Prop
/-- a slice's part (left out, or an int) -/
def PO (X : Cx) (e : Option Expr) (t : TO) : Prop :=
  ∀ (pins : List (Addr × Obj)) (s : Shared) (σ : St) (H : Hp) (Q : Option Int → Hp → Prop), Inv X pins σ H s → t σ H Q →
    wpAny (model X.prog X.w) X.A (evalPart e X.env) (fun u s' => ∃ o H', Inv X pins σ H' s' ∧ IsPart u o ∧ Q o H') X.xe s
def tPart (t : TE) : TO := fun σ H Q => t σ H fun x H1 => ∃ i, x = .int i ∧ Q (some i) H1


section
variable {X : Cx} {e : Expr} {te : TE} {lo hi : Option Expr} {tl th : TO} {pos p2 : Pos}

theorem po_some (h : PE X e te) : PO X (some e) (tPart te) := by
  intro pins s σ H Q I hw
  rw [evalPart_some]
  refine thn (h pins s σ H _ I hw) fun u s1 ⟨x, H1, I1, r1, q1⟩ => ?_
  obtain ⟨i, rfl, q⟩ := q1
  obtain ⟨t, rfl⟩ := r1
  exact ⟨some i, H1, I1, .int i t, q⟩

/-- what a slice of a value is, by values: the slice object stands at sl -/
def SlR (X : Cx) (r : V → Option Int → Option Int → Hp → VK → Prop) : Prop :=
  ∀ (pins : List (Addr × Obj)) (s : Shared) (σ : St) (H : Hp) (x : V) (v vl vu : Value) (lo hi : Option Int) (sl : Addr) (Q : VK), Inv X pins σ H s → RelV x v → s.heap.IsSliceOf sl vl vu .none → IsPart vl lo → IsPart vu hi → r x lo hi H Q →
    ∃ T id, typeLookup (.type T) "__getitem__" = pure (some (.builtin id)) ∧ s.TypeIs v T ∧ wpAny (model X.prog X.w) X.A (getItem v (.ref sl)) (EP X pins σ Q) X.xe s
def tSl (r : V → Option Int → Option Int → Hp → VK → Prop) (te : TE) (tl th : TO) : TE := fun σ H Q => te σ H fun x H1 => tl σ H1 fun l H2 => th σ H2 fun u H3 => r x l u H3 Q
/-- a[lo:hi], any a -/
theorem pe_slice {r : V → Option Int → Option Int → Hp → VK → Prop} (hr : SlR X r) (he : PE X e te) (hl : PO X lo tl) (hu : PO X hi th) : PE X (.Subscript e (.Slice lo hi none p2) pos) (tSl r te tl th) := by
  intro pins s σ H Q I h
  refine Subscript_ (thn (he pins s σ H _ I h) fun v s1 ⟨x, H1, I1, r1, q1⟩ => ?_)
  refine wpAny_Slice (thn (hl pins s1 σ H1 _ I1 q1) fun vl s2 ⟨l, H2, I2, pl, q2⟩ => thn (hu pins s2 σ H2 _ I2 q2) fun vu s3 ⟨u, H3, I3, pu, q3⟩ => ?_)
  rw [evalPart_none]
  refine wpAny_pure ?_
  have I4 : Inv X pins σ H3 { s3 with heap := s3.heap.push { cls := .type "slice", data := .fields #[vl, vu, .none] } } := I3.kept (t' := s3.toks) fun b ob q => Heap.get?_push_of_some _ q
  obtain ⟨T, id, hT, ht, hg⟩ := hr pins { s3 with heap := s3.heap.push { cls := .type "slice", data := .fields #[vl, vu, .none] } } σ H3 x v vl vu l u s3.heap.objs.size Q I4 r1 (Heap.IsSliceOf.new ..) pl pu q3
  show wpAny (model X.prog X.w) X.A (subscriptTail e (.Slice lo hi none p2) v (.ref s3.heap.objs.size)) (EP X pins σ Q) X.xe { s3 with heap := s3.heap.push { cls := .type "slice", data := .fields #[vl, vu, .none] } }
  exact tail_any (ops := [.ref s3.heap.objs.size, v]) ht hT hg (by with_unfolding_all rfl)

/-- the items of xs[lo:hi] -/
def cutV (xs : List V) (lo hi : Option Int) : List V := (xs.drop (HT.sIx xs.length 0 lo)).take (HT.sIx xs.length xs.length hi - HT.sIx xs.length 0 lo)
theorem cutV_length (xs : List V) (lo hi : Option Int) : (cutV xs lo hi).length ≤ xs.length := by
  unfold cutV
  rw [List.length_take, List.length_drop]
  omega

/-! ### t < u, t + u -/
end
end L2

namespace L2
open PySem PySem.Spec PyProof.Rows

/-! ### places -/
/-- the place that an index of any sign means -/
def ixN (n : Nat) (i : Int) : Option Nat := if 0 ≤ i then (if i < n then some i.toNat else none) else if -(n : Int) ≤ i then some (i + n).toNat else none
def atI {α : Type} (xs : List α) (i : Int) : Option α := (ixN xs.length i).bind fun j => xs[j]?
theorem ixN_seq {n : Nat} {i : Int} {j : Nat} (h : ixN n i = some j) : seqIndex? i n = some j ∧ j < n ∧ -(n : Int) ≤ i ∧ i < n := by
  unfold ixN at h
  by_cases h0 : 0 ≤ i
  · rw [if_pos h0] at h
    by_cases h1 : i < n
    · rw [if_pos h1] at h
      have e : i.toNat = j := Option.some.inj h
      exact ⟨by rw [seqIndex_of h0 h1, e], by omega, by omega, h1⟩
    · rw [if_neg h1] at h; cases h
  · rw [if_neg h0] at h
    by_cases h1 : -(n : Int) ≤ i
    · rw [if_pos h1] at h
      have e : (i + n).toNat = j := Option.some.inj h
      exact ⟨by rw [seqIndex_neg (by omega) h1, e], by omega, h1, by omega⟩
    · rw [if_neg h1] at h; cases h
theorem atI_get {α : Type} {xs : List α} {i : Int} {v : α} (h : atI xs i = some v) : ∃ j, seqIndex? i xs.length = some j ∧ xs[j]? = some v ∧ j < xs.length ∧ -(xs.length : Int) ≤ i ∧ i < xs.length := by
  unfold atI at h
  cases e : ixN xs.length i with
  | none => rw [e] at h; cases h
  | some j =>
    rw [e] at h
    obtain ⟨h1, h2, h3, h4⟩ := ixN_seq e
    exact ⟨j, h1, h, h2, h3, h4⟩
theorem atI_nat {α : Type} {xs : List α} {j : Nat} {v : α} (h : xs[j]? = some v) : atI xs (j : Int) = some v := by
  have hj : j < xs.length := (List.getElem?_eq_some_iff.mp h).1
  have e : ixN xs.length (j : Int) = some j := by
    unfold ixN
    rw [if_pos (by omega), if_pos (by omega)]; simp
  unfold atI; rw [e]; exact h
theorem atI_last {α : Type} (xs : List α) (v : α) : atI (xs ++ [v]) (-1) = some v := by
  have hl : (xs ++ [v]).length = xs.length + 1 := by simp
  have e : ixN (xs ++ [v]).length (-1) = some xs.length := by
    unfold ixN
    rw [hl, if_neg (by decide), if_pos (by omega)]
    congr 1
    omega
  unfold atI
  rw [e]
  show (xs ++ [v])[xs.length]? = some v
  simp

/-! ### what may be subscripted -/
/-- what stands as an index of a plain subscript -/
def PlainIx (b : Expr) : Prop := ∀ o i, subscripted b false o i = operate [o, i] (getItem o i)
/-- a subscript by values -/
def IxR (X : Cx) (r : R2) : Prop :=
  ∀ (value slice : Expr) (pins : List (Addr × Obj)) (s : Shared) (σ : St) (H : Hp) (x y : V) (v u : Value) (Q : VK), Inv X pins σ H s → RelV x v → RelV y u → r x y H Q →
    subscripted slice false v u = operate [v, u] (getItem v u) → wpAny (model X.prog X.w) X.A (subscriptTail value slice v u) (EP X pins σ Q) X.xe s
/-- a call of a builtin's method by values: the receiver, the arguments -/
def MtR (X : Cx) (id : String) (r : V → List V → Hp → VK → Prop) : Prop :=
  ∀ (pins : List (Addr × Obj)) (s : Shared) (σ : St) (H : Hp) (x : V) (xs : List V) (v : Value) (us : List Value) (Q : VK), Inv X pins σ H s → RelV x v → Vals xs us → r x xs H Q →
    wpAny (model X.prog X.w) X.A (call (.builtin id) (v :: us)) (EP X pins σ Q) X.xe s
section
variable {X : Cx} {a b : Expr} {ta tb : TE} {pos : Pos}
/-- a[b] -/
theorem pe_ix {r : R2} (hr : IxR X r) (ha : PE X a ta) (hb : PE X b tb) (hs : PlainIx b) : PE X (.Subscript a b pos) (tOp r ta tb) := by
  intro pins s σ H Q I h
  exact Subscript_ (binT ha hb I h fun v u s2 x y H2 I2 rx ry q => hr a b pins s2 σ H2 x y v u Q I2 rx ry q (hs _ _))

def rIxL (K : PySem.W.Frag) : R2 := fun x y H Q => ∃ p xs i v, x = .ref p ∧ y = .int i ∧ SqL K H p xs ∧ atI xs i = some v ∧ Q v H
def rIxT (K : PySem.W.Frag) : R2 := fun x y H Q => ∃ p xs i v, x = .ref p ∧ y = .int i ∧ SqT K H p xs ∧ atI xs i = some v ∧ Q v H
theorem ix_list : IxR X (rIxL X.K) := by
  intro value slice pins s σ H x y v u Q I rx ry h hs
  obtain ⟨p, xs, i, z, rfl, rfl, hq, he, q⟩ := h
  cases rx
  obtain ⟨t, rfl⟩ := ry
  obtain ⟨its, r, pl, hz⟩ := I.list hq
  obtain ⟨j, h1, h2, h3, h4, h5⟩ := atI_get he
  obtain ⟨w, ew, rw'⟩ := r.get h2
  have hl := r.length
  have hn := line63
  have fin : EP X pins σ Q w s := ⟨z, H, I, rw', q⟩
  by_cases h0 : 0 ≤ i
  · have hj : i.toNat = j := by
      rw [seqIndex_of h0 h5] at h1
      exact Option.some.inj h1
    exact item_listR pl.isList h0 (by omega) (by rw [hj]; simpa using ew) fin hs
  · have hj : (i + (its.toArray.size : Int)).toNat = j := by
      rw [seqIndex_neg (by omega) h4] at h1
      rw [List.size_toArray, ← hl]
      exact Option.some.inj h1
    exact subscriptTail_builtinR (x := w) pl.isList.typeIs slot_list_getitem.lookup
      (wpAny_getItem_list_neg (Q := fun r s' => r = w ∧ EP X pins σ Q r s') pl.isList (by omega) (by rw [List.size_toArray] <;> omega) (by omega) (by rw [hj]; simpa using ew) ⟨rfl, fin⟩) hs
theorem ix_tup : IxR X (rIxT X.K) := by
  intro value slice pins s σ H x y v u Q I rx ry h hs
  obtain ⟨p, xs, i, z, rfl, rfl, hq, he, q⟩ := h
  cases rx
  obtain ⟨t, rfl⟩ := ry
  obtain ⟨its, r, pl, hz⟩ := I.tuple hq
  obtain ⟨j, h1, h2, h3, h4, h5⟩ := atI_get he
  obtain ⟨w, ew, rw'⟩ := r.get h2
  have hl := r.length
  have hn := line63
  have fin : EP X pins σ Q w s := ⟨z, H, I, rw', q⟩
  exact subscriptTail_builtinR (x := w) pl.typeIs slot_tuple_getitem.lookup
    (getItem_tuple (j := j) (Q := fun r s' => r = w ∧ EP X pins σ Q r s') pl (by omega) (by omega) (by rw [List.size_toArray, ← hl]; exact h1) (by simpa using ew) ⟨rfl, fin⟩) hs

/-! ### xs[i] = v, any sign -/

/-! ### slices -/
theorem slice_bounds (lo hi : Option Int) (n : Nat) : (sliceBounds lo hi none n).1 = ((HT.sIx n 0 lo : Nat) : Int) ∧ (sliceBounds lo hi none n).2.1 = ((HT.sIx n n hi : Nat) : Int) ∧ (sliceBounds lo hi none n).2.2 = 1 := by
  refine ⟨?_, ?_, rfl⟩
  · cases lo with
    | none => simp [sliceBounds, HT.sIx]
    | some i =>
      simp only [sliceBounds, HT.sIx, Option.getD_none, show (1 : Int) > 0 by decide, if_true]
      by_cases h : i < 0
      · simp only [h, if_true] <;> omega
      · simp only [h, if_false] <;> omega
  · cases hi with
    | none => simp [sliceBounds, HT.sIx]
    | some i =>
      simp only [sliceBounds, HT.sIx, Option.getD_none, show (1 : Int) > 0 by decide, if_true]
      by_cases h : i < 0
      · simp only [h, if_true] <;> omega
      · simp only [h, if_false] <;> omega
theorem slicePick_cut (its : List Value) (lo hi : Option Int) : slicePick its.toArray lo hi none = ((its.drop (HT.sIx its.length 0 lo)).take (HT.sIx its.length its.length hi - HT.sIx its.length 0 lo)).toArray := by
  obtain ⟨h1, h2, h3⟩ := slice_bounds lo hi its.toArray.size
  unfold slicePick
  rw [h1, h2, h3]
  simp only [sliceRange_one, pick_run, List.size_toArray] <;> rfl
/-- xs[lo:hi] of a list: a new list -/
def rSlL (K : PySem.W.Frag) : V → Option Int → Option Int → Hp → VK → Prop := fun x lo hi H Q => ∃ a xs, x = .ref a ∧ SqL K H a xs ∧ ∀ p, H p = none → Q (.ref p) (upd H p (.lst (cutV xs lo hi)))
theorem sl_list : SlR X (rSlL X.K) := by
  intro pins s σ H x v vl vu lo hi sl Q I rx hs pl pu h
  obtain ⟨a, xs, rfl, hx, q⟩ := h
  cases rx
  obtain ⟨its, r, ht, hz⟩ := I.list hx
  have hlen := r.length
  refine ⟨"list", _, slot_list_getitem.lookup, ht.isList.typeIs, ?_⟩
  refine wpAny_getItem_list_slice ht.isList hs pl pu .none (by simp) ?_ (by rw [List.size_toArray] <;> omega)
  rw [slicePick_cut, ← hlen]
  refine ⟨.ref s.heap.objs.size, _, I.laid (t' := s.toks) (o := .lst (cutV xs lo hi)) (fun b ob q => Heap.get?_push_of_some _ q) (Nat.le_refl _) ?_, rfl, q _ (I.hok.fresh (Nat.le_refl _))⟩
  exact ⟨Nat.le_trans (cutV_length xs lo hi) hz, _, 0, (r.drop (HT.sIx xs.length 0 lo)).take (HT.sIx xs.length xs.length hi - HT.sIx xs.length 0 lo), Heap.get?_push_size _ rfl⟩

/-! ### in, not in: flat items -/

/-! ### len, list(x), tuple(x) of any list or tuple that is read -/
theorem call_len_seq : CallR X (.builtin "len") (fun xs H Q => ∃ p ys, xs = [.ref p] ∧ (SqL X.K H p ys ∨ SqT X.K H p ys) ∧ Q (.int ys.length) H) := by
  intro pins s σ H xs us Q I r h
  obtain ⟨p, ys, rfl, hq, q⟩ := h
  obtain ⟨u, rfl, rx⟩ := vals1 r
  cases rx
  have hn := line63
  rcases hq with hq | hq
  · obtain ⟨its, r', pl, hz⟩ := I.list hq
    have hlen := r'.length
    exact Calls.call_len_list pl.isList (by simp only [List.size_toArray] <;> omega) ⟨.int ys.length, H, I.tok _, ⟨s.toks + 1, by rw [List.size_toArray, hlen]⟩, q⟩
  · obtain ⟨its, r', pl, hz⟩ := I.tuple hq
    have hlen := r'.length
    exact len_tuple pl (by simp only [List.size_toArray] <;> omega) ⟨.int ys.length, H, I.tok _, ⟨s.toks + 1, by rw [List.size_toArray, hlen]⟩, q⟩

/-! ### the call of a builtin's method: o.m(..) -/
/-- the value is of that builtin type -/
def tyV (K : PySem.W.Frag) (T : String) (x : V) (H : Hp) : Prop := match x with
  | .str _ => T = "str"
  | .int _ => T = "int"
  | .ref p => (T = "list" ∧ ∃ xs, SqL K H p xs) ∨ (T = "tuple" ∧ ∃ o, K.lookup p = some o ∧ o.cls = .type "tuple" ∧ o.dict = none) ∨
      (T = "dict" ∧ ((∃ kvs, H p = some (.dK kvs)) ∨ ∃ kvs, H p = some (.dT kvs))) ∨ (T = "set" ∧ ∃ S n, H p = some (.set S n))
  | _ => False
theorem tyV_is {pins : List (Addr × Obj)} {σ : St} {H : Hp} {s : Shared} {T : String} {x : V} {v : Value} (I : Inv X pins σ H s) (r : RelV x v) (ty : tyV X.K T x H) :
    s.TypeIs v T ∧ ∀ a, v = .ref a → ∃ ob, s.heap.get? a = some ob ∧ ob.dict = none := by
  cases x with
  | str z =>
    obtain ⟨t, rfl⟩ := r
    cases (show T = "str" from ty)
    exact ⟨typeIs_str s z t, fun _ e => nomatch e⟩
  | int i =>
    obtain ⟨t, rfl⟩ := r
    cases (show T = "int" from ty)
    exact ⟨typeIs_int s i t, fun _ e => nomatch e⟩
  | ref p =>
    cases r
    rcases ty with ⟨rfl, xs, hq⟩ | ⟨rfl, o, hk, hc, hd⟩ | ⟨rfl, hk⟩ | ⟨rfl, S, n, hk⟩
    · obtain ⟨its, _, pl, _⟩ := I.list hq
      refine ⟨pl.isList.typeIs, fun a e => ?_⟩
      cases e
      obtain ⟨o, n, e, c, hd, _⟩ := pl
      exact ⟨o, e, hd⟩
    · refine ⟨⟨o, I.kIn p o hk, hc⟩, fun a e => ?_⟩
      cases e
      exact ⟨o, I.kIn _ o hk, hd⟩
    · have z : ∃ o, s.heap.get? p = some o ∧ o.ExactDict := by
        rcases hk with ⟨kvs, hk⟩ | ⟨kvs, hk⟩
        · obtain ⟨_, _, _, _, o, _, _, e, ex, _⟩ := I.hok p _ hk
          exact ⟨o, e, ex⟩
        · obtain ⟨_, _, _, _, o, _, _, e, ex, _⟩ := I.hok p _ hk
          exact ⟨o, e, ex⟩
      obtain ⟨o, e, ex⟩ := z
      refine ⟨⟨o, e, ex.1⟩, fun a e2 => ?_⟩
      cases e2
      exact ⟨o, e, ex.2.1⟩
    · obtain ⟨o, _, _, _, e, ex, _⟩ := I.hok p _ hk
      refine ⟨⟨o, e, ex.1⟩, fun a e2 => ?_⟩
      cases e2
      exact ⟨o, e, ex.2.1⟩
  | _ => exact False.elim ty
def tBM0 (K : PySem.W.Frag) (T : String) (r : V → List V → Hp → VK → Prop) (to : TE) : TE := fun σ H Q => to σ H fun x H1 => tyV K T x H1 ∧ r x [] H1 Q
def tBM (K : PySem.W.Frag) (T : String) (r : V → List V → Hp → VK → Prop) (to : TE) (t : TA) : TE := fun σ H Q => to σ H fun x H1 => tyV K T x H1 ∧ t σ H1 fun xs H2 => r x xs H2 Q
variable {o e : Expr} {es : List Expr} {to : TE} {t : TA} {name : Str} {apos cpos : Pos} {T id : String} {r : V → List V → Hp → VK → Prop}
theorem pe_bm0 (pa : PlainAttrs T) (slot : Slot T name id) (hty : typeOf (.builtin id) = pure (.type "method_descriptor")) (hm : MtR X id r) (ho : PE X o to)
    (hbase : attributeBase o name X.env (eval o X.env) = eval o X.env := by rfl) (hline : (apos.endLine == cpos.line) = true := by rfl) : PE X (.Call (.Attribute o name apos) [] [] cpos) (tBM0 X.K T r to) := by
  intro pins s σ H Q I h
  refine wpAny_Call_method0_late hbase hline (thn (ho pins s σ H _ I h) fun v s1 ⟨x, H1, I1, r1, ty, q1⟩ => ?_)
  obtain ⟨h1, h2⟩ := tyV_is I1 r1 ty
  exact ⟨T, id, pa, slot, hty, h1, h2, Calls.callWith_builtin rfl (PySem.evalArgs_none (hm pins s1 σ H1 x [] v [] Q I1 r1 .nil q1))⟩
theorem pe_bm (pa : PlainAttrs T) (slot : Slot T name id) (hty : typeOf (.builtin id) = pure (.type "method_descriptor")) (hm : MtR X id r) (ho : PE X o to) (ha : PA X (e :: es) t)
    (hbase : attributeBase o name X.env (eval o X.env) = eval o X.env := by rfl)
    (hfew : ((backTo cpos (starEach (e :: es) X.env)).all (fun x => !x.1) && (backToKw cpos (keywordEach [] X.env)).all (fun x => x.1.isSome)
      && decide ((e :: es).length + ([] : List Keyword).length + (if ([] : List Keyword).isEmpty then 0 else 1) < 30)) = true := by rfl)
    (hline : (apos.endLine == cpos.line) = true := by rfl) (hs : starEach (e :: es) X.env = (false, eval e X.env) :: starEach es X.env := by rfl) (hplain : (backTo cpos (starEach es X.env)).any (·.1) = false := by rfl) :
    PE X (.Call (.Attribute o name apos) (e :: es) [] cpos) (tBM X.K T r to t) := by
  intro pins s σ H Q I h
  refine wpAny_Call_method_late hbase hfew hline rfl (thn (ho pins s σ H _ I h) fun v s1 ⟨x, H1, I1, r1, ty, q1⟩ => ?_)
  obtain ⟨h1, h2⟩ := tyV_is I1 r1 ty
  refine ⟨T, id, pa, slot, hty, h1, h2, ?_⟩
  have hA := ha cpos pins s1 σ H1 _ I1 q1
  rw [hs] at hA ⊢
  refine Calls.callWith_builtin (by show (false || (backTo cpos (starEach es X.env)).any (·.1)) = false; rw [hplain] <;> rfl) (Calls.evalArgs_plain ?_)
  exact thn hA fun us s2 ⟨vs, H2, I2, r2, q2⟩ => hm pins s2 σ H2 x vs v us Q I2 r1 r2 q2
/- xs.append(e), list.index on a module's tuple .. are MtR facts of 06m -/
end
end L2

namespace L2
open PySem PySem.Spec PyProof.Rows

def MtM (X : Cx) (id : String) (r : V → List V → Hp → VK → Prop) : Prop :=
  ∀ (pins : List (Addr × Obj)) (s : Shared) (σ : St) (H : Hp) (x : V) (xs : List V) (v : Value) (us : List Value) (Q : VK), Inv X pins σ H s → RelV x v → Vals xs us → r x xs H Q →
    wpAny (model X.prog X.w) X.A (call (.builtin id) (v :: us)) (EP X pins σ Q) X.xe s

/-! ### lists of values -/
theorem Vals.one : ∀ {x : V} {us : List Value}, Vals [x] us → ∃ u, us = [u] ∧ RelV x u
  | _, _, .cons r .nil => ⟨_, rfl, r⟩
theorem Vals.zero : ∀ {us : List Value}, Vals [] us → us = []
  | _, .nil => rfl
theorem Vals.dropLast {xs : List V} {us : List Value} (h : Vals xs us) : Vals xs.dropLast us.dropLast := by
  induction h with
  | nil => exact .nil
  | cons r t ih =>
    cases t with
    | nil => exact .nil
    | cons q t' => exact .cons r ih
theorem Vals.rep {xs : List V} {us : List Value} (h : Vals xs us) : ∀ k : Nat, Vals (List.replicate k xs).flatten (List.replicate k us).flatten
  | 0 => .nil
  | k + 1 => by
    rw [List.replicate_succ, List.replicate_succ, List.flatten_cons, List.flatten_cons]
    exact Vals.append h (Vals.rep h k)
theorem erase_last {α : Type} (l : List α) : l.eraseIdx (l.length - 1) = l.dropLast := by
  induction l with
  | nil => rfl
  | cons a r ih =>
    cases r with
    | nil => rfl
    | cons b r =>
      have e : (a :: b :: r).length - 1 = ((b :: r).length - 1) + 1 := by
        have h1 : (a :: b :: r).length = r.length + 2 := rfl
        have h2 : (b :: r).length = r.length + 1 := rfl
        omega
      rw [e, List.eraseIdx_cons_succ, ih]
      all_goals rfl
theorem foldl_rep (its : List Value) : ∀ (k : Nat) (acc : List Value),
    List.foldl (fun x1 x2 => x1 ++ x2) acc.toArray (List.replicate k its.toArray) = (acc ++ (List.replicate k its).flatten).toArray
  | 0, acc => by simp
  | k + 1, acc => by
    have e : acc.toArray ++ its.toArray = (acc ++ its).toArray := by simp
    have e2 : (acc ++ its) ++ (List.replicate k its).flatten = acc ++ (List.replicate (k + 1) its).flatten := by
      rw [List.replicate_succ, List.flatten_cons, List.append_assoc]
    rw [← e2, ← foldl_rep its k (acc ++ its), ← e, List.replicate_succ, List.foldl_cons]

section
variable {X : Cx} {pins : List (Addr × Obj)} {σ : St} {H : Hp} {s : Shared} {l b : Addr} {xs ys zs : List V}

/-! ### the two steps: a tracked list is rewritten, a new list is laid -/
theorem Inv.lset {its its' : List Value} {n : Nat} {f : Array Value → Array Value} {t' : Nat} (I : Inv X pins σ H s) (hH : H l = some (.lst xs))
    (e : s.heap.get? l = some { cls := .type "list", data := .seq its.toArray n }) (hf : f its.toArray = its'.toArray) (hv : Vals ys its') (hz : ys.length ≤ sizeLine) :
    Inv X pins σ (upd H l (.lst ys)) { s with heap := s.heap.update l (Obj.mapSeq f), toks := t' } := by
  have q := PySem.IsL.update e f
  rw [hf] at q
  refine I.write (x := l) (e := l) (by rw [hH]; exact trivial) (.inl rfl) (fun b' u hb hu => (Heap.get?_update_other s.heap (Obj.mapSeq f) (Ne.symm hb)).trans hu) ⟨_, q⟩ ?_
  exact ⟨hz, its', _, hv, q⟩
theorem Inv.lnew {its : List Value} {t' : Nat} (I : Inv X pins σ H s) (hv : Vals ys its) (hz : ys.length ≤ sizeLine) :
    Inv X pins σ (upd H s.heap.objs.size (.lst ys)) { s with heap := s.heap.push { cls := .type "list", data := .seq its.toArray }, toks := t' } :=
  I.laid (fun _ _ q => Heap.get?_push_of_some _ q) (Nat.le_refl _) ⟨hz, its, 0, hv, Heap.get?_push_size _ rfl⟩
theorem Inv.fresh (I : Inv X pins σ H s) : H s.heap.objs.size = none := I.hok.fresh (Nat.le_refl _)
theorem Inv.lstM (I : Inv X pins σ H s) (hH : H l = some (.lst xs)) : xs.length ≤ sizeLine ∧ ∃ (its : List Value) (n : Nat), Vals xs its ∧ xs.length = its.length ∧ s.heap.get? l = some { cls := .type "list", data := .seq its.toArray n } := by
  obtain ⟨z, its, n, r, e⟩ := I.hok l _ hH
  exact ⟨z, its, n, r, r.length, e⟩

theorem notLongL {n : Nat} (h : n ≤ sizeLine) : Builtin.List.listTooLong n = false := by
  unfold Builtin.List.listTooLong
  exact decide_eq_false (by omega)
end

section
variable {X : Cx}

/-! ### methods -/
def rAppend : V → List V → Hp → VK → Prop := fun x vs H Q => ∃ l xs y, x = .ref l ∧ vs = [y] ∧ H l = some (.lst xs) ∧ xs.length < sizeLine ∧ Q .non (upd H l (.lst (xs ++ [y])))
theorem mt_append : MtM X "list.append" rAppend := by
  intro pins s σ H x vs v us Q I rx rv h
  obtain ⟨l, xs, y, rfl, rfl, hH, hz, q⟩ := h
  cases rx
  obtain ⟨u, rfl, ru⟩ := rv.one
  obtain ⟨z, its, n, r, hl, e⟩ := I.lstM hH
  refine call_meets F.slot_list_append ⟨_, e, rfl⟩ F.entry_list_append (F.args_list_append_2 _ _) (PySem.list_append l its.toArray n u (by rw [List.size_toArray]; omega)) ⟨e, ?_⟩
  refine ⟨.non, _, I.lset (its' := its ++ [u]) hH e (by simp) (r.append (.cons ru .nil)) ?_, rfl, q⟩
  rw [List.length_append, List.length_singleton]
  omega

def rExtend : V → List V → Hp → VK → Prop := fun x vs H Q => ∃ l b xs zs, x = .ref l ∧ vs = [.ref b] ∧ H l = some (.lst xs) ∧ H b = some (.lst zs) ∧ xs.length + zs.length ≤ sizeLine ∧ Q .non (upd H l (.lst (xs ++ zs)))
theorem mt_extend : MtM X "list.extend" rExtend := by
  intro pins s σ H x vs v us Q I rx rv h
  obtain ⟨l, b, xs, zs, rfl, rfl, hH, hB, hz, q⟩ := h
  cases rx
  obtain ⟨u, rfl, ru⟩ := rv.one
  cases ru
  obtain ⟨z, its, n, r, hl, e⟩ := I.lstM hH
  obtain ⟨z2, its2, n2, r2, hl2, e2⟩ := I.lstM hB
  have hsz : its.toArray.size + its2.toArray.size ≤ sizeLine := by rw [List.size_toArray, List.size_toArray]; omega
  have hlong : ¬ (!its.toArray.isEmpty && Builtin.List.listTooLong (its.toArray.size + its2.toArray.size)) = true := by
    rw [notLongL hsz, Bool.and_false]
    exact Bool.false_ne_true
  refine call_meets F.slot_list_extend ⟨_, e, rfl⟩ F.entry_list_extend (F.args_list_extend_2 _ _)
    (AutoSeq1.list_extend_list_list_0 l its.toArray n b its2.toArray n2 hlong (by rw [List.size_toArray]; omega) (by omega)) ⟨e, e2, ?_⟩
  refine ⟨.non, _, I.lset (its' := its ++ its2) hH e (by simp) (r.append r2) ?_, rfl, q⟩
  rw [List.length_append]
  omega

def rPop : V → List V → Hp → VK → Prop := fun x vs H Q => ∃ l xs y, x = .ref l ∧ vs = [] ∧ H l = some (.lst xs) ∧ xs[xs.length - 1]? = some y ∧ Q y (upd H l (.lst xs.dropLast))
theorem mt_pop : MtM X "list.pop" rPop := by
  intro pins s σ H x vs v us Q I rx rv h
  obtain ⟨l, xs, y, rfl, rfl, hH, hy, q⟩ := h
  cases rx
  have hus := rv.zero
  subst hus
  obtain ⟨z, its, n, r, hl, e⟩ := I.lstM hH
  obtain ⟨u, hu, ru⟩ := r.get hy
  have hy' : its.toArray[its.toArray.size - 1]? = some u := by
    show its.toArray[its.length - 1]? = some u
    rw [← Array.getElem?_toList, ← hl]
    exact hu
  refine call_meets F.slot_list_pop ⟨_, e, rfl⟩ F.entry_list_pop (F.args_list_pop_1 _) (MeetsSeq.list_pop_last l its.toArray n u hy' (by rw [List.size_toArray]; omega)) ⟨e, ?_⟩
  refine ⟨y, _, I.lset (its' := its.dropLast) hH e ?_ r.dropLast ?_, ru, q⟩
  · show its.toArray.eraseIdxIfInBounds (its.toArray.size - 1) = its.dropLast.toArray
    rw [List.size_toArray, List.eraseIdxIfInBounds_toArray, erase_last]
  · rw [List.length_dropLast]
    omega




/-! ### list + list, list += list, list * int -/
def rCat : R2 := fun x y H Q => ∃ l b xs zs, x = .ref l ∧ y = .ref b ∧ H l = some (.lst xs) ∧ H b = some (.lst zs) ∧ xs.length + zs.length ≤ sizeLine ∧ ∀ p, H p = none → Q (.ref p) (upd H p (.lst (xs ++ zs)))
theorem op_cat : OpR X (binaryOp .Add) rCat := by
  intro pins s σ H x y v u Q I rx ry h
  obtain ⟨l, b, xs, zs, rfl, rfl, hH, hB, hz, q⟩ := h
  cases rx
  cases ry
  obtain ⟨z, its, n, r, hl, e⟩ := I.lstM hH
  obtain ⟨z2, its2, n2, r2, hl2, e2⟩ := I.lstM hB
  refine PySem.P.add_list e e2 ?_ (by rw [List.size_toArray, List.size_toArray]; omega)
  have ea : its.toArray ++ its2.toArray = (its ++ its2).toArray := by simp
  rw [ea]
  exact ⟨.ref _, _, I.lnew (t' := s.toks) (r.append r2) (by rw [List.length_append]; omega), rfl, q _ I.fresh⟩
/-- a list times an int (a negative one is nothing) -/
def rRep : R2 := fun x y H Q => ∃ l k xs, x = .ref l ∧ y = .int k ∧ H l = some (.lst xs) ∧ -(2 ^ 63) ≤ k ∧ k < 2 ^ 63 ∧ xs.length * k.toNat ≤ sizeLine ∧
  ∀ p, H p = none → Q (.ref p) (upd H p (.lst (List.replicate k.toNat xs).flatten))
theorem len_rep {α : Type} (xs : List α) (k : Nat) : (List.replicate k xs).flatten.length = k * xs.length := by
  induction k with
  | zero => simp
  | succ k ih => rw [List.replicate_succ, List.flatten_cons, List.length_append, ih, Nat.succ_mul, Nat.add_comm]
theorem op_rep : OpR X (binaryOp .Mult) rRep := by
  intro pins s σ H x y v u Q I rx ry h
  obtain ⟨l, k, xs, rfl, rfl, hH, h1, h2, hz, q⟩ := h
  cases rx
  obtain ⟨t, rfl⟩ := ry
  obtain ⟨z, its, n, r, hl, e⟩ := I.lstM hH
  have hlen : its.toArray.size * k.toNat ≤ sizeLine := by rw [List.size_toArray, ← hl]; exact hz
  have hcap : ¬ its.toArray.size * k.toNat > (2 ^ 63 - 1) / 8 := by
    have : (sizeLine : Nat) ≤ (2 ^ 63 - 1) / 8 := by decide
    omega
  have hfit : ¬ (!Builtin.List.listFitsIndex k) = true := by
    rw [fitsIndex_both h1 h2]
    exact Bool.false_ne_true
  have hlong : ¬ Builtin.List.listTooLong (its.toArray.size * k.toNat) = true := by
    rw [notLongL hlen]
    exact Bool.false_ne_true
  have hnew : List.foldl (fun x1 x2 => x1 ++ x2) #[] (List.replicate (if its.toArray.isEmpty = true then 0 else k.toNat) its.toArray) = (List.replicate k.toNat its).flatten.toArray := by
    have f0 : ∀ m : Nat, List.foldl (fun x1 x2 => x1 ++ x2) #[] (List.replicate m its.toArray) = (List.replicate m its).flatten.toArray := fun m => by
      have := foldl_rep its m []
      rw [List.nil_append] at this
      exact this
    rw [f0]
    cases its with
    | nil => simp
    | cons a r' => rw [if_neg (by simp)]
  refine wpAny_binaryOp_repeat_ref (T := "list") (U := "int") (by decide) ⟨_, e, rfl⟩ (fun s' => typeIs_int s' k t) noFill_list_mul F.fills_int_mul F.slot_int_rmul repeat_list F.slot_int_index.lookup
    (call_meets F.slot_int_rmul (typeIs_int s k t) F.entry_int_rmul (F.args_int_rmul_2 _ _) (int___rmul___int_list k t l its.toArray n)
      ⟨e, rfl, ⟨_, e, rfl⟩, call_meets F.slot_list_mul ⟨_, e, rfl⟩ F.entry_list_mul (F.args_list_mul_2 _ _) (AutoListH.list___mul___list_int_3 l its.toArray n k t hfit hcap hlong) ⟨e, ?_⟩⟩)
  rw [hnew]
  exact ⟨.ref _, _, I.lnew (t' := s.toks) (r.rep k.toNat) (by rw [len_rep, Nat.mul_comm]; exact hz), rfl, q _ I.fresh⟩

/-! ### del xs[i] -/
end

/-! ### xs[a:b] = ys -/
section
variable {prog : Program} {w : World} {A : Around} {E : Value → Shared → Prop} {s : Shared}
set_option maxRecDepth 100000 in
end

section
variable {X : Cx}
end
end L2

namespace L2
open PySem PySem.Spec PyProof.Rows

theorem Vals.ints : ∀ {ns : List Int} {us : List Value}, Vals (ns.map V.int) us → IntsAre us ns
  | [], us, h => by
    rw [List.map_nil] at h
    cases h
    exact IntsAre.nil
  | n :: ns, us, h => by
    rw [List.map_cons] at h
    cases h with
    | cons r t =>
      obtain ⟨k, rfl⟩ := r
      exact IntsAre.cons n k (Vals.ints t)

/-! ### the library's walks over a list of ints, kept objects alone -/
section
variable {prog : Program} {w : World} {A : Around} {E : Value → Shared → Prop} {s : Shared} {l : Addr} {its : List Value} {ns : List Int} {Q : Value → Shared → Prop}
end

/-! ### the calls, by values (CallR of 03t; MtR of 06l) -/
section
variable {X : Cx}

/-! sorted, sort (fewer than 64 items: the library's own bound) -/
end

/-! ### list.index, flat items -/
section
variable {X : Cx}
end

/-! ### type(x) of an own instance; is, is not of a module's class -/
section
variable {X : Cx}
end

/-! ### any(xs), all(xs) of a list of bools -/
section
variable {X : Cx}
end

/-! ### == and != of data at any depth: none, bools, ints, texts, lists, tuples -/
mutual
inductive Dp (K : PySem.W.Frag) (H : Hp) : V → PyData → Prop
  | non : Dp K H .non .none
  | bl (b : Bool) : Dp K H (.bl b) (.bool b)
  | int (i : Int) : Dp K H (.int i) (.int i)
  | str (x : Str) : Dp K H (.str x) (.str x)
  | lst {a : Addr} {xs : List V} {ds : List PyData} : SqL K H a xs → DpAll K H xs ds → Dp K H (.ref a) (.list ds)
  | tup {a : Addr} {xs : List V} {ds : List PyData} : SqT K H a xs → DpAll K H xs ds → Dp K H (.ref a) (.tuple ds)
inductive DpAll (K : PySem.W.Frag) (H : Hp) : List V → List PyData → Prop
  | nil : DpAll K H [] []
  | cons {v : V} {vs : List V} {d : PyData} {ds : List PyData} : Dp K H v d → DpAll K H vs ds → DpAll K H (v :: vs) (d :: ds)
end
section
variable {X : Cx} {pins : List (Addr × Obj)} {σ : St} {H : Hp} {s : Shared}
mutual
theorem Dp.reads (I : Inv X pins σ H s) : ∀ (d : PyData) (v : V) (u : Value), Dp X.K H v d → RelV v u → ∃ as, Reads s.heap u d as
  | .none, _, _, h, r => by
    cases h
    cases r
    exact ⟨_, Reads.none⟩
  | .bool b, _, _, h, r => by
    cases h
    cases r
    exact ⟨_, Reads.bool b⟩
  | .int i, _, _, h, r => by
    cases h
    obtain ⟨t, rfl⟩ := r
    exact ⟨_, Reads.int i t⟩
  | .str x, _, _, h, r => by
    cases h
    obtain ⟨t, rfl⟩ := r
    exact ⟨_, Reads.str x t⟩
  | .list ds, _, _, h, r => by
    cases h with
    | lst hs ha =>
      cases r
      obtain ⟨its, rv, ⟨o, n, ho, hc, _, hd⟩, _⟩ := I.list hs
      obtain ⟨as, hr⟩ := Dp.readsAll I ds _ its ha rv
      exact ⟨_, Reads.list ho hc hd hr⟩
  | .tuple ds, _, _, h, r => by
    cases h with
    | tup hs ha =>
      cases r
      obtain ⟨its, rv, ⟨o, ho, hc, n, hd⟩, _⟩ := I.tuple hs
      obtain ⟨as, hr⟩ := Dp.readsAll I ds _ its ha rv
      exact ⟨_, Reads.tuple ho hc hd hr⟩
  | .dict _, _, _, h, _ => by cases h
theorem Dp.readsAll (I : Inv X pins σ H s) : ∀ (ds : List PyData) (vs : List V) (us : List Value), DpAll X.K H vs ds → Vals vs us → ∃ as, ReadsAll s.heap us ds as
  | [], _, _, h, r => by
    cases h
    cases r
    exact ⟨_, ReadsAll.nil⟩
  | d :: ds, _, _, h, r => by
    cases h with
    | cons h1 h2 =>
      cases r with
      | cons r1 r2 =>
        obtain ⟨as, q1⟩ := Dp.reads I d _ _ h1 r1
        obtain ⟨bs, q2⟩ := Dp.readsAll I ds _ _ h2 r2
        exact ⟨_, ReadsAll.cons q1 q2⟩
end
end
section
variable {X : Cx}
def rEqD (K : PySem.W.Frag) : R2 := fun x y H Q => ∃ d e, Dp K H x d ∧ Dp K H y e ∧ SeqAt.shaped d = true ∧ SeqAt.shaped e = true ∧ Q (.bl (PyData.eqv d e)) H
def rNeD (K : PySem.W.Frag) : R2 := fun x y H Q => ∃ d e, Dp K H x d ∧ Dp K H y e ∧ SeqAt.shaped d = true ∧ SeqAt.shaped e = true ∧ Q (.bl (!PyData.eqv d e)) H
theorem op_eqD (hu : X.A.units + 64 < cLine) : OpR X (compareOp .Eq) (rEqD X.K) := by
  intro pins s σ H x y v u Q I rx ry h
  obtain ⟨d, e, hd, he, sd, se, q⟩ := h
  obtain ⟨as, r1⟩ := Dp.reads I d x v hd rx
  obtain ⟨bs, r2⟩ := Dp.reads I e y u he ry
  exact SeqAt.compareEq_shaped r1 r2 sd se hu ⟨.bl _, H, I, rfl, q⟩
theorem op_neD (hu : X.A.units + 64 < cLine) : OpR X (compareOp .NotEq) (rNeD X.K) := by
  intro pins s σ H x y v u Q I rx ry h
  obtain ⟨d, e, hd, he, sd, se, q⟩ := h
  obtain ⟨as, r1⟩ := Dp.reads I d x v hd rx
  obtain ⟨bs, r2⟩ := Dp.reads I e y u he ry
  exact SeqAt.compareNe_shaped r1 r2 sd se hu ⟨.bl _, H, I, rfl, q⟩
end
end L2

namespace L2
open PySem PySem.Spec PyProof.Rows











section
variable {X : Cx} {pins : List (Addr × Obj)} {σ : St} {H : Hp} {s : Shared}


end



section
variable {X : Cx}
end

/-! ### the forms one uses -/
end L2

namespace L2
open PySem PySem.Spec PyProof.Rows


section
variable {prog : Program} {w : World} {A : Around} {R : Result → Shared → Prop} {s : Shared} {elt t0 i0 t1 i1 : Expr} {ifs0 ifs1 : List Expr} {scope : Scope} {pos : Pos} {it acc : Value} {env : Env}
end

section
variable {X : Cx}
end
end L2

namespace L2
open PySem PySem.Spec PyProof.Rows

/-! ### lists of pairs as tables -/
section
variable {κ : Type} [DecidableEq κ]
def valV (kvs : List (κ × V)) (k : κ) : Option V := (kvs.find? fun kv => decide (kv.1 = k)).map (·.2)
/-- in its place, or at the end -/
def putK (kvs : List (κ × V)) (k : κ) (v : V) : List (κ × V) :=
  if (kvs.any fun kv => decide (kv.1 = k)) = true then kvs.map (fun kv => if kv.1 = k then (kv.1, v) else kv) else kvs ++ [(k, v)]

theorem valV_pos {p : κ × V} {r : List (κ × V)} {k : κ} (e : p.1 = k) : valV (p :: r) k = some p.2 := by simp [valV, List.find?_cons, e]
theorem valV_neg {p : κ × V} {r : List (κ × V)} {k : κ} (e : ¬ p.1 = k) : valV (p :: r) k = valV r k := by simp [valV, List.find?_cons, e]
theorem valV_any (k : κ) : ∀ kvs : List (κ × V), (kvs.any fun kv => decide (kv.1 = k)) = (valV kvs k).isSome
  | [] => rfl
  | p :: r => by
    rw [List.any_cons]
    by_cases e : p.1 = k
    · simp only [valV_pos e, decide_eq_true e, Bool.true_or, Option.isSome_some]
    · rw [valV_neg e, decide_eq_false e, Bool.false_or]; exact valV_any k r
theorem length_putK (kvs : List (κ × V)) (k : κ) (v : V) : (putK kvs k v).length ≤ kvs.length + 1 := by
  unfold putK
  split
  · rw [List.length_map]; omega
  · rw [List.length_append, List.length_cons, List.length_nil]; omega

theorem RelO.isSome_eq {o : Option V} {u : Option Value} (r : RelO o u) : o.isSome = u.isSome := by
  cases o with
  | none => cases u with
    | none => rfl
    | some _ => exact (show False from r).elim
  | some _ => cases u with
    | none => exact (show False from r).elim
    | some _ => rfl

/-- raw tables of the same keys -/
theorem KV.val {kvs : List (κ × V)} {vs : List (κ × Value)} (r : KV kvs vs) (k : κ) : RelO (valV kvs k) (valueAt vs k) := by
  unfold KV at r
  induction r with
  | nil => exact True.intro
  | @cons p q ps qs h t ih =>
    obtain ⟨h1, h2⟩ := h
    by_cases e : p.1 = k
    · have e' : q.1 = k := h1.symm.trans e
      have b : valueAt (q :: qs) k = some q.2 := by simp [valueAt, List.find?_cons, e']
      rw [valV_pos e, b]; exact h2
    · have e' : ¬ q.1 = k := fun z => e (h1.trans z)
      have b : valueAt (q :: qs) k = valueAt qs k := by simp [valueAt, List.find?_cons, e']
      rw [valV_neg e, b]; exact ih
theorem KV.any {kvs : List (κ × V)} {vs : List (κ × Value)} (r : KV kvs vs) (k : κ) : (kvs.any fun kv => decide (kv.1 = k)) = vs.any fun kv => decide (kv.1 = k) := by
  unfold KV at r
  induction r with
  | nil => rfl
  | cons h t ih => rw [List.any_cons, List.any_cons, ih, h.1]
theorem KV.repl {kvs : List (κ × V)} {vs : List (κ × Value)} (r : KV kvs vs) (k : κ) {y : V} {u : Value} (ry : RelV y u) :
    KV (kvs.map fun kv => if kv.1 = k then (kv.1, y) else kv) (vs.map fun kv => if kv.1 = k then (kv.1, u) else kv) := by
  unfold KV at r ⊢
  induction r with
  | nil => exact .nil
  | @cons p q ps qs h t ih =>
    rw [List.map_cons, List.map_cons]
    refine .cons ?_ ih
    obtain ⟨h1, h2⟩ := h
    by_cases e : p.1 = k
    · rw [if_pos e, if_pos (h1.symm.trans e)]; exact ⟨h1, ry⟩
    · rw [if_neg e, if_neg (fun z => e (h1.trans z))]; exact ⟨h1, h2⟩
theorem KV.put {kvs : List (κ × V)} {vs : List (κ × Value)} (r : KV kvs vs) (k : κ) {y : V} {u : Value} (ry : RelV y u) : KV (putK kvs k y) (stored vs k u) := by
  unfold putK stored
  rw [r.any k]
  by_cases e : (vs.any fun kv => decide (kv.1 = k)) = true
  · rw [if_pos e, if_pos e]; exact r.repl k ry
  · rw [if_neg e, if_neg e]; exact Paired.snoc r ⟨rfl, ry⟩
theorem KV.length {kvs : List (κ × V)} {vs : List (κ × Value)} (r : KV kvs vs) : kvs.length = vs.length := Paired.length r
end


/-! ### a tracked dict, its keys ints and texts or tuples of these -/
theorem kV_is {P : Program} {w : World} {k : Key} {u : Value} (r : RelV (kV k) u) : (mixKind P w).is k u = true := by
  cases k with
  | inl i => obtain ⟨t, e⟩ := (show ∃ t, u = Value.int i t from r); subst e; exact mixKind_int P w i t
  | inr x => obtain ⟨t, e⟩ := (show ∃ t, u = Value.str x t from r); subst e; exact mixKind_str P w x t
theorem items_are {P : Program} {w : World} : ∀ {ks : List Key} {us : List Value}, Vals (ks.map kV) us → ItemsAre (mixKind P w) ks us
  | [], _, r => by rw [List.map_nil] at r; cases r; exact .nil
  | k :: ks, _, r => by
    rw [List.map_cons] at r
    cases r with
    | cons h t => exact .cons (kV_is h) (items_are t)

/-- raw entries of a dict with tuple keys -/
abbrev KT (H : Hp) : List (List Key × V) → List (List Key × Addr × Value) → Prop := Paired fun p q => p.1 = q.1 ∧ H q.2.1 = some (.tup (p.1.map kV)) ∧ RelV p.2 q.2.2
theorem KT.val {H : Hp} {kvs : List (List Key × V)} {xs : List (List Key × Addr × Value)} (r : KT H kvs xs) (k : List Key) : RelO (valV kvs k) ((atKey xs k).map (·.2)) := by
  induction r with
  | nil => exact True.intro
  | @cons p q ps qs h t ih =>
    obtain ⟨h1, _, h2⟩ := h
    by_cases e : p.1 = k
    · have e' : q.1 = k := h1.symm.trans e
      have b : atKey (q :: qs) k = some q.2 := by simp [atKey, List.find?_cons, e']
      rw [valV_pos e, b]; exact h2
    · have e' : ¬ q.1 = k := fun z => e (h1.trans z)
      have b : atKey (q :: qs) k = atKey qs k := by simp [atKey, List.find?_cons, e']
      rw [valV_neg e, b]; exact ih
theorem KT.repl {H : Hp} {kvs : List (List Key × V)} {xs : List (List Key × Addr × Value)} (r : KT H kvs xs) (k : List Key) {y : V} {u : Value} (ry : RelV y u) :
    KT H (kvs.map fun kv => if kv.1 = k then (kv.1, y) else kv) (xs.map (putAt k u)) := by
  induction r with
  | nil => exact .nil
  | @cons p q ps qs h t ih =>
    rw [List.map_cons, List.map_cons]
    refine .cons ?_ ih
    obtain ⟨h1, h2, h3⟩ := h
    unfold putAt
    by_cases e : p.1 = k
    · rw [if_pos e, if_pos (h1.symm.trans e)]; exact ⟨h1, h2, ry⟩
    · rw [if_neg e, if_neg (fun z => e (h1.trans z))]; exact ⟨h1, h2, h3⟩
theorem KT.put {H : Hp} {kvs : List (List Key × V)} {xs : List (List Key × Addr × Value)} (r : KT H kvs xs) (k : List Key) {b : Addr} {y : V} {u : Value} (hb : H b = some (.tup (k.map kV))) (ry : RelV y u) :
    KT H (putK kvs k y) (storedH xs k b u) := by
  have e : (kvs.any fun kv => decide (kv.1 = k)) = (atKey xs k).isSome := by
    rw [valV_any, (r.val k).isSome_eq, Option.isSome_map]
  unfold putK storedH
  rw [e]
  by_cases q : (atKey xs k).isSome = true
  · rw [if_pos q, if_pos q]; exact r.repl k ry
  · rw [if_neg q, if_neg q]; exact Paired.snoc r ⟨rfl, hb, ry⟩
theorem KT.keeps {H H' : Hp} {kvs : List (List Key × V)} {xs : List (List Key × Addr × Value)} (r : KT H kvs xs) (ht : ∀ b ys, H b = some (.tup ys) → H' b = some (.tup ys)) : KT H' kvs xs :=
  Paired.mapP r fun _ _ z => ⟨z.1, ht _ _ z.2.1, z.2.2⟩

section
variable {P : Program} {w : World} {H : Hp} {h : Heap} {a : Addr}
theorem rd_of {u : HO} (ok : HOk P w H h) (e : Rd H a u) : ObjOk P w H h a u := e.ok ok
theorem dk_rd {kvs : List (Key × V)} (ok : HOk P w H h) (e : Rd H a (.dK kvs)) : kvs.length ≤ sizeLine ∧ (a == sysModules) = false ∧ ∃ vs, KV kvs vs ∧ h.DictOf (mixKind P w) a vs :=
  show ObjOk P w H h a (.dK kvs) from rd_of ok e
theorem dk_of {kvs : List (Key × V)} (ok : HOk P w H h) (e : H a = some (.dK kvs)) : kvs.length ≤ sizeLine ∧ (a == sysModules) = false ∧ ∃ vs, KV kvs vs ∧ h.DictOf (mixKind P w) a vs := dk_rd ok (.inl e)
/-- a tracked tuple of ints and texts is a key -/
theorem key_of {ks : List Key} (ok : HOk P w H h) (e : H a = some (.tup (ks.map kV))) : (tupleKind (mixKind P w)).is h ks a := by
  obtain ⟨_, its, r, o, h1, h2, n, h3⟩ := (show ObjOk P w H h a (.tup (ks.map kV)) from ok a _ e)
  exact ⟨o, its.toArray, n, h1, h2, h3, by simpa using items_are r⟩
theorem dt_rd {kvs : List (List Key × V)} (ok : HOk P w H h) (e : Rd H a (.dT kvs)) : kvs.length ≤ sizeLine ∧ (a == sysModules) = false ∧
    ∃ xs, KT H kvs xs ∧ h.DictOfH (tupleKind (mixKind P w)) a xs := by
  obtain ⟨z, y, xs, r, o, es, ep, h1, h2, h3, h4, h5⟩ := (show ObjOk P w H h a (.dT kvs) from rd_of ok e)
  refine ⟨z, y, xs, r, o, es, ep, h1, h2, h3, h4, fun x hx => ?_, h5⟩
  have all : ∀ {l : List (List Key × V)} {m : List (List Key × Addr × Value)}, KT H l m → ∀ x ∈ m, (tupleKind (mixKind P w)).is h x.1 x.2.1 := by
    intro l m q
    induction q with
    | nil => intro x hx; exact nomatch hx
    | @cons p q ps qs hq t ih =>
      intro x hx
      rcases List.mem_cons.mp hx with e | hx
      · subst e
        exact key_of ok (by rw [← hq.1]; exact hq.2.1)
      · exact ih x hx
  exact all r x hx
theorem dt_of {kvs : List (List Key × V)} (ok : HOk P w H h) (e : H a = some (.dT kvs)) : kvs.length ≤ sizeLine ∧ (a == sysModules) = false ∧
    ∃ xs, KT H kvs xs ∧ h.DictOfH (tupleKind (mixKind P w)) a xs := dt_rd ok (.inl e)
end

/-- what the dict at a holds at the key y -/
def DGet (H : Hp) (a : Addr) (y : V) (r : Option V) : Prop :=
  (∃ kvs k, Rd H a (.dK kvs) ∧ y = kV k ∧ r = valV kvs k) ∨ ∃ kvs k b, Rd H a (.dT kvs) ∧ y = .ref b ∧ H b = some (.tup (k.map kV)) ∧ r = valV kvs k
/-- the heap behind a[y] = v -/
def DPut (H : Hp) (a : Addr) (y v : V) (H' : Hp) : Prop :=
  (∃ kvs k, H a = some (.dK kvs) ∧ y = kV k ∧ kvs.length < sizeLine ∧ H' = upd H a (.dK (putK kvs k v))) ∨
  ∃ kvs k b, H a = some (.dT kvs) ∧ y = .ref b ∧ H b = some (.tup (k.map kV)) ∧ kvs.length < sizeLine ∧ H' = upd H a (.dT (putK kvs k v))
theorem DGet.t {H : Hp} {a b : Addr} {kvs : List (List Key × V)} {k : List Key} (e : H a = some (.dT kvs)) (eb : H b = some (.tup (k.map kV))) : DGet H a (.ref b) (valV kvs k) := .inr ⟨kvs, k, b, .inl e, rfl, eb, rfl⟩
theorem DPut.t {H : Hp} {a b : Addr} {kvs : List (List Key × V)} {k : List Key} {v : V} (e : H a = some (.dT kvs)) (eb : H b = some (.tup (k.map kV))) (hl : kvs.length < sizeLine) :
    DPut H a (.ref b) v (upd H a (.dT (putK kvs k v))) := .inr ⟨kvs, k, b, e, rfl, eb, hl, rfl⟩


section
variable {X : Cx} {pins : List (Addr × Obj)} {σ : St} {H : Hp} {s : Shared} {a : Addr} {y v : V} {u r : Value} {o : Option V} {A : Around} {E : Value → Shared → Prop}

theorem Inv.big (I : Inv X pins σ H s) : sysModules < s.heap.objs.size := by
  have h : mainGlobals < s.heap.objs.size := (I.mod.glob.keeps I.bk).lt
  exact Nat.lt_trans (by decide) h

theorem d_notIn {Q : Value → Shared → Prop} (hu : A.units + 1 < cLine) (I : Inv X pins σ H s) (g : DGet H a y o) (ry : RelV y u) (h : ∀ s', Inv X pins σ H s' → Q (.bool (!o.isSome)) s') :
    wpAny (model X.prog X.w) A (compareOp .NotIn u (.ref a)) Q E s := by
  rcases g with ⟨kvs, k, e, ey, l⟩ | ⟨kvs, k, b, e, ey, eb, l⟩
  · subst ey
    obtain ⟨z, hd, vs, rel, dd⟩ := dk_rd I.hok e
    refine wpAny_notIn_of (kV_is ry) hd dd.mapOf ?_
    rw [← (rel.val k).isSome_eq, ← l]
    exact h _ (I.tok _)
  · subst ey
    cases (show u = Value.ref b from ry)
    obtain ⟨z, hd, xs, rel, dd⟩ := dt_rd I.hok e
    refine wpAny_notIn_heap (tupleKind_room_in1 hu) (key_of I.hok eb) hd dd ?_
    have q := (rel.val k).isSome_eq
    rw [Option.isSome_map] at q
    rw [← q, ← l]
    exact h _ (I.tok _)
/-- a dict's object is replaced -/
theorem d_write {h' : Heap} {t' : Nat} {ob : HO} (I : Inv X pins σ H s) (mu : Mut (H a)) (hs : Heap.SameBut a s.heap h') (he : ∃ q, h'.get? a = some q) (new : ObjOk X.prog X.w (upd H a ob) h' a ob) :
    Inv X pins σ (upd H a ob) { s with heap := h', toks := t' } :=
  I.write (x := a) (e := a) mu (.inl rfl) (fun b q hb z => (hs.2 b hb).trans z) he new
theorem dk_new {P : Program} {w : World} {H' : Hp} {h' : Heap} {kvs : List (Key × V)} {vs : List (Key × Value)} (z : kvs.length ≤ sizeLine) (hd : (a == sysModules) = false) (rel : KV kvs vs) (dd : h'.DictOf (mixKind P w) a vs) :
    ObjOk P w H' h' a (.dK kvs) := ⟨z, hd, vs, rel, dd⟩
/-- d[y] = v -/
theorem d_setItem {H' : Hp} {Q : Unit → Shared → Prop} (hu : A.units + 1 < cLine) (I : Inv X pins σ H s) (g : DPut H a y v H') (ry : RelV y u) (rv : RelV v r) (h : ∀ s', Inv X pins σ H' s' → Q () s') :
    wpAny (model X.prog X.w) A (setItem (.ref a) u r) Q E s := by
  rcases g with ⟨kvs, k, e, ey, l, eH⟩ | ⟨kvs, k, b, e, ey, eb, l, eH⟩
  · subst ey eH
    obtain ⟨z, hd, vs, rel, dd⟩ := dk_of I.hok e
    have hz : vs.length ≤ sizeLine := by rw [← rel.length]; exact z
    have hl : (putK kvs k v).length ≤ sizeLine := by have := length_putK kvs k v; omega
    refine wpAny_setItem_pairs (hsz := hz) (kV_is ry) dd fun h' dd' hs => h _ ?_
    have he : ∃ q, h'.get? a = some q := let ⟨q, _, _, hq, _⟩ := dd'; ⟨q, hq⟩
    exact d_write I (by rw [e]; exact True.intro) hs he (dk_new hl hd (rel.put k rv) dd')
  · subst ey eH
    cases (show u = Value.ref b from ry)
    obtain ⟨z, hd, xs, rel, dd⟩ := dt_of I.hok e
    have hz : xs.length ≤ sizeLine := by rw [← Paired.length rel]; exact z
    have hl : (putK kvs k v).length ≤ sizeLine := by have := length_putK kvs k v; omega
    refine wpAny_setItem_heap (hsz := hz) (tupleKind_room_in1 hu) (key_of I.hok eb) dd fun h' dd' hs => h _ ?_
    obtain ⟨q, es, ep, hq, h2, h3, h4, _, h5⟩ := dd'
    refine d_write I (by rw [e]; exact True.intro) hs ⟨q, hq⟩ ⟨hl, hd, _, (rel.put k eb rv).keeps fun c ys ec => ?_, q, es, ep, hq, h2, h3, h4, h5⟩
    rw [upd_ne (ne_of ec e (fun z => nomatch z))]
    exact ec
end

section
variable {X : Cx} {pins : List (Addr × Obj)} {σ : St} {H : Hp} {s : Shared} {a : Addr} {kvs : List (Key × V)} {k : Key} {u : Value} {A : Around} {E : Value → Shared → Prop}
end


/-! ### readings and rules -/


def tDNotIn (ty td : TE) : TE := fun σ H Q => ty σ H fun y H1 => td σ H1 fun x H2 => ∃ a o, x = .ref a ∧ DGet H2 a y o ∧ Q (.bl (!o.isSome)) H2
/-- d[y] = v -/
def sDPut (td ty tv : TE) : TS := fun D σ H => tv σ H fun v H1 => td σ H1 fun x H2 => ty σ H2 fun y H3 => ∃ a H4, x = .ref a ∧ DPut H3 a y v H4 ∧ D.nx σ H4

section
variable {X : Cx} {o i e value : Expr} {pos pos' tpos : Pos} {td ty tv : TE}
theorem pc_dnotin (hu : X.A.units + 1 < cLine) (hi : PE X i ty) (ho : PE X o td) : PC X .NotIn i o (tDNotIn ty td) := by
  intro pins s σ H Q I h
  refine thn (hi pins s σ H _ I h) fun iv s1 ⟨y, H1, I1, ry, q1⟩ => thn (ho pins s1 σ H1 _ I1 q1) fun u s2 ⟨x, H2, I2, rx, a, ov, ex, g, q2⟩ => ?_
  subst ex
  obtain rfl : u = Value.ref a := rx
  exact d_notIn hu I2 g ry fun s3 I3 => ⟨.bl (!ov.isSome), H2, I3, rfl, q2⟩
theorem ps_dput (hu : X.A.units + 1 < cLine) (ho : PE X o td) (hi : PE X i ty) (hv : PE X value tv) (hs : swapsWith value (some (.Subscript o i pos')) pos.line X.env = pure false) :
    PS X (.Assign [.Subscript o i pos'] value pos) (sDPut td ty tv) := by
  intro pins s σ H D I h
  refine wpAny_Assign_Subscript (thn (hv pins s σ H _ I h) fun r s1 ⟨v, H1, I1, rv, q1⟩ => thn (ho pins s1 σ H1 _ I1 q1) fun u s2 ⟨x, H2, I2, rx, q2⟩ => thn (hi pins s2 σ H2 _ I2 q2) fun iv s3 ⟨y, H3, I3, ry, a, H4, ex, g, q3⟩ => ?_) hs
  subst ex
  obtain rfl : u = Value.ref a := rx
  exact d_setItem hu I3 g ry rv fun s4 I4 => ⟨σ, H4, I4, q3⟩
end


/-! ### displays -/
theorem dt_empty {P : Program} {w : World} {H : Hp} (h : Heap) (hb : sysModules < h.objs.size) : ObjOk P w H (h.push { cls := .type "dict", data := .dict #[] }) h.objs.size (.dT []) :=
  ⟨Nat.zero_le _, beq_eq_false_iff_ne.mpr (Ne.symm (Nat.ne_of_lt hb)), [], .nil, _, #[], 0, Heap.get?_push_size _ rfl, ⟨rfl, rfl, rfl⟩, rfl, rfl, List.nodup_nil⟩
section
variable {X : Cx} {pos : Pos}
end




/-! ### methods -/


section
variable {X : Cx} {pins : List (Addr × Obj)} {σ : St} {H : Hp} {s : Shared} {a : Addr} {y d : V} {u r : Value} {o : Option V} {A : Around} {E : Value → Shared → Prop}
end

section
variable {X : Cx} {o e f : Expr} {apos cpos : Pos} {td ty tx : TE}
end

/-! ### dict(d): a copy -/
section
variable {X : Cx} {pins : List (Addr × Obj)} {σ : St} {H : Hp} {s : Shared} {a : Addr} {kvs : List (Key × V)} {A : Around} {E : Value → Shared → Prop}
end


section
variable {X : Cx} {pins : List (Addr × Obj)} {σ : St} {H : Hp} {s : Shared} {a : Addr} {y : V} {u : Value} {A : Around} {E : Value → Shared → Prop}
end
end L2

namespace L2
open PySem PySem.Spec PyProof.Rows


section
variable {prog : Program} {w : World} {A : Around} {E : Value → Shared → Prop}


end

section
variable {X : Cx}
end
end L2

namespace L2
open PySem PySem.Spec PyProof.Rows


section
variable {X : Cx} {pins : List (Addr × Obj)} {σ : St} {H : Hp} {s : Shared} {h' : Heap}

/-! ### locking a thing while a statement runs -/
end
section
variable {X : Cx}

/-! ### one iterator just laid -/
end

/-! ### range with a step -/
section
variable {X : Cx} {tg : Expr}
end

/-! ### reversed(list) -/
section
variable {X : Cx} {tg : Expr}
end

/-! ### a str -/

/-! ### a dict's keys: any dict's entries -/
section
variable {prog : Program} {w : World} {A : Around} {E : Value → Shared → Prop} {s : Shared}
end

/-! ### a locked dict -/
theorem paired_get {α β : Type} {G : α → β → Prop} {l₁ : List α} {l₂ : List β} (h : Paired G l₁ l₂) : ∀ {i : Nat} {a : α}, l₁[i]? = some a → ∃ b, l₂[i]? = some b ∧ G a b := by
  induction h with
  | nil => intro i a e; simp at e
  | @cons a b l₁ l₂ r t ih =>
    intro i a' e
    cases i with
    | zero =>
      simp only [List.getElem?_cons_zero, Option.some.injEq] at e
      subst e
      exact ⟨b, rfl, r⟩
    | succ j =>
      simp only [List.getElem?_cons_succ] at e ⊢
      exact ih e
section
variable {X : Cx} {pins : List (Addr × Obj)} {σ : St} {H : Hp} {s : Shared} {d : Addr} {o : Obj}
end

section
variable {P : Program} {w : World} {K : PySem.W.Frag} {tg : Expr} {d : Addr} {o : Obj} {es : Array DictEntry} {ep : Nat}
end

/-! ### for k in d, d.keys(), d.values(), d.items() -/
section
variable {X : Cx} {tg e : Expr} {td : TE} {apos cpos : Pos}
end

/-! ### enumerate(list) -/
/-! ### zip(list, list) -/
end L2

section 
namespace Bits
open PySem PyProof.Rows








end Bits
end 

section 
namespace TL
open PySem PySem.Builtin PySem.Builtin.Str PySem.StrLaws


/-! ### the list functions -/




/-! ### the model's split and partition are these -/




/-! ### computing spl and par -/


/-! ### digits -/

/-! ### words: x.split() -/
end TL
end 

namespace L2
open PySem PySem.Spec PyProof.Rows




section
variable {X : Cx} {pins : List (Addr × Obj)} {σ : St} {H : Hp} {s : Shared} {Q : VK}
end

section
variable {X : Cx}





/-! ### of a text alone -/

/-! ### of a text and a text -/

end

section
variable {X : Cx} {o e : Expr} {to te : TE}

end
end L2

namespace L2
open PySem PySem.Spec PyProof.Rows

section
variable {X : Cx}
end

/-! ### slices of a text -/


end L2

namespace Att
open PySem PySem.W PySem.Calls PyProof.Rows

/-! ### the script -/



/-! ### the attachment: holds_open's last premise (the goal 'hc' behind k_head) from a wpAny of the law's body -/



/-! ### rules over ANY heap (no ledger) from facts about the written part K: the library's own take a ledger (News) for what they write -/
section
variable {prog : Program} {w : World} {A : Around} {E : Value → Shared → Prop} {s : Shared} {K : Frag}





/-! the whole heap as the ledger: makes every rule that writes through a ledger a rule over any heap -/

end
end Att

namespace L2
open PySem PySem.Spec PyProof.Rows



end L2

namespace L2
open PySem PySem.Spec PyProof.Rows


end L2

/- THE LAST THEOREM (shape; LID, My.* are yours):
   My.Adr: a structure of the addresses that your layer names (classes, functions); My.Txt K t: a structure (Prop) of the equations over K;
   My.txt_mk : {K} {implicit addresses ..} (e1 : nsIn K mainGlobals "law" = some (some (.ref f))) (e2 : K.lookup f = some ⟨oc, od, .func (fnOf "law" "law" params body scope dV kV doc pm an cdv ct), sl⟩) (e3 : codeIn K cdv "law" = true) .. : ∃ t, My.Txt K t

set_option maxRecDepth 100000 in
set_option maxHeartbeats 0 in
theorem PySem.Challenge.cw_LID_holds : PySem.Challenge.rw_LID.Holds := by
  w_on; o_law; k_head; (case hw => w_witness2)
  k_fill
  refine L2.walk_of (l := PySem.Challenge.rw_LID) (n := 63) (k := 40) (x := "script") (CX := fun w => ..) (sp := fun _ => My.sp_law) rfl (by decide) rfl ⟨rfl, by decide, by decide⟩ (fun w h Y => PySem.W.kIn_of Y) ?F ?S ?C
  case F =>
    intro w mg fa h KX G hmg
    have T : ∃ t, My.Txt (L2.KOf KX) t := by
      dsimp only [L2.KOf]                          -- K must stand as «<heap const> w.params» for k_is
      refine' My.txt_mk ?e1 ?e2 ?e3 ..
      (case e1 => PySem.W.k_is)                    -- in the order: a name -> its address -> its object -> its parts
      (case e2 => PySem.W.k_is)
      ..
    obtain ⟨t, T⟩ := T
    have e0 := hmg.symm.trans (PySem.W.mg_of KX G T.law)
    cases e0                                       -- fa is the law's own address
    exact ⟨_, fun s u => .of_eq rfl, fun base kb nb => My.law_fn T kb nb⟩     -- if «.of_eq rfl» comes too early: refine' ⟨_, ?b, fun base kb nb => My.law_fn T kb nb⟩; exact fun s u => .of_eq rfl
  case S => exact fun w H a ns hl hO hS => ..
  case C => exact ..
(the tactic k_is has no namespace: write k_is) -/

/-! SHORT WORDS over the layer: a def of the text, its body, what a loop and a test want. -/
namespace L2
open PySem PySem.Spec PyProof.Rows

/-! ### the text by places -/
/-- the j-th statement of a class's body -/
def inClass (s : Stmt) (j : Nat) : Stmt := match s with
  | .ClassDef _ _ _ body _ _ _ _ _ _ _ => body.getD j (.Pass ⟨0, 0, 0, 0⟩)
  | _ => .Pass ⟨0, 0, 0, 0⟩
def defArgs (s : Stmt) : Arguments := match s with
  | .FunctionDef _ a _ _ _ _ _ _ _ _ => a
  | _ => { posonlyargs := [], args := [], vararg := none, kwonlyargs := [], kw_defaults := [], kwarg := none, defaults := [] }
def defBody (s : Stmt) : List Stmt := match s with
  | .FunctionDef _ _ b _ _ _ _ _ _ _ => b
  | _ => []
def defScope (s : Stmt) : Scope := match s with
  | .FunctionDef _ _ _ _ _ _ sc _ _ _ => sc
  | _ => { kind := .function, names := [], isGenerator := false, isCoroutine := false }

/-! ### no exception leaves a def -/
abbrev CX0 : CXT := fun _ _ _ _ _ _ => False
abbrev E0 : XK := fun _ _ _ => False
theorem pass0 {X : Cx} : Passes CX0 X E0 := fun _ _ _ _ _ _ _ h => h.elim

/-! ### a def (or method) of the text as it stands behind the top -/
structure Fun (K : PySem.W.Frag) (x qual : Str) (st : Stmt) (f : Addr) (fd : FuncData) : Prop where
  ex : ∃ (oc : Value) (od : Option Addr) (kV doc pm : Value) (an : Option Addr) (cdv ct : Value) (osl : Array (Option Value)),
    fd = PySem.W.fnOf x qual (defArgs st) (defBody st) (defScope st) .none kV doc pm an cdv ct ∧ K.lookup f = some ⟨oc, od, .func fd, osl⟩ ∧ PySem.W.codeIn K cdv qual = true
  kp : PySem.W.keepIn K (.ref f) = true
section
variable {P : Program} {w : World} {K : PySem.W.Frag} {mg : Str → Option Value} {base : Heap}
/-- THE RULE for a def: its body as a term of rules, and the reading of that term -/
theorem Fun.ok {x qual : Str} {st : Stmt} {f : Addr} {fd : FuncData} {N ps : List Str} {k : Nat} {sp : Sp} (F : Fun K x qual st f fd) (S : FnScope N ps (defScope st)) (len : ∀ vs H Q E, sp vs H Q E → vs.length = ps.length)
    (hbody : ∀ (cdv : Value) (A : Around) (outer : List Env) (s : Shared) (H : Hp) (vs : List V) (Q : VK) (E : XK), Room k (A.deeper (envOfC qual (defScope st) s.heap.objs.size f cdv)) → sp vs H Q E →
      ∃ t, PSs (cxOf CX0 P w K mg base N qual (defScope st) f cdv A outer s H E).nox (defBody st) t ∧ t { nx := fun _ H' => Q .non H', rt := Q } (start N vs) H) : FnOk P w K mg base CX0 (k + 1) f fd ps sp := by
  obtain ⟨oc, od, kV, doc, pm, an, cdv, ct, osl, rfl, lk, hcd⟩ := F.ex
  refine fn_of lk hcd S len fun A outer s H vs Q E hr hsp => ?_
  obtain ⟨t, h, q⟩ := hbody cdv A outer s H vs Q E hr hsp
  exact ⟨t, h.nox, q⟩
/-- how its arguments bind (no defaults): h is «fun _ _ _ _ _ _ us hl => match us, hl with | [_, _], _ => rfl», one _ a parameter -/
theorem Fun.binds {x qual : Str} {st : Stmt} {f : Addr} {fd : FuncData} {ps : List Str} (F : Fun K x qual st f fd)
    (h : ∀ (kV doc pm : Value) (an : Option Addr) (cdv ct : Value) (us : List Value), us.length = ps.length → bindArgs (PySem.W.fnOf x qual (defArgs st) (defBody st) (defScope st) .none kV doc pm an cdv ct) ⟨us, []⟩ = pure (ps.zip us)) : Binds K fd ps [] := by
  obtain ⟨oc, od, kV, doc, pm, an, cdv, ct, osl, rfl, lk, hcd⟩ := F.ex
  exact .all (h kV doc pm an cdv ct)
theorem fun_mk {x qual : Str} {st : Stmt} {f : Addr} {oc : Value} {od an : Option Addr} {osl : Array (Option Value)} {kV doc pm cdv ct : Value} (l : K.lookup f = some ⟨oc, od, .func (PySem.W.fnOf x qual (defArgs st) (defBody st) (defScope st) .none kV doc pm an cdv ct), osl⟩)
    (c : PySem.W.codeIn K cdv qual = true) (k : PySem.W.keepIn K (.ref f) = true) : Fun K x qual st f (PySem.W.fnOf x qual (defArgs st) (defBody st) (defScope st) .none kV doc pm an cdv ct) := ⟨⟨oc, od, kV, doc, pm, an, cdv, ct, osl, rfl, l, c⟩, k⟩
end
theorem hu_of {A : Around} {k : Nat} (hr : Room k A) : A.units + 1 < cLine := Nat.lt_of_le_of_lt (Nat.add_le_add_left (by decide : 1 ≤ 64) _) hr.units
theorem small1000 {n : Nat} (h : n ≤ 1000) : n < sizeLine := Nat.lt_of_le_of_lt h (by decide)

/-! ### expressions in short: the name that stands in the i-th slot -/
section
variable {X : Cx}
theorem pv (i : Nat) {x : Str} {pos : Pos} (hN : X.N[i]? = some x := by rfl) (hv : Vis X.env.scope x := by first | exact Or.inl rfl | exact Or.inr (Or.inl rfl) | exact Or.inr (Or.inr rfl)) (hd : (x == ("__debug__" : Str)) = false := by decide)
    (hcd : (x == ("__classdict__" : Str)) = false := by decide) : PE X (.Name x pos) (tVar i) := pe_var hN hv hd hcd
end

/-! ### tests -/
theorem iteF {A B : Prop} (h : B) : if false = true then A else B := by
  rw [if_neg Bool.false_ne_true]
  exact h
theorem iteT {A B : Prop} (h : A) : if true = true then A else B := by
  rw [if_pos rfl]
  exact h
theorem ite2 {c A B : Prop} [Decidable c] (h1 : c → A) (h2 : ¬ c → B) : if c then A else B := by
  by_cases h : c
  · rw [if_pos h]
    exact h1 h
  · rw [if_neg h]
    exact h2 h

/-! ### heaps -/
/-- all that was tracked is as it was -/
def Same (H H' : Hp) : Prop := ∀ b o, H b = some o → H' b = some o
theorem Same.trans {H H1 H2 : Hp} (a : Same H H1) (b : Same H1 H2) : Same H H2 := fun c o h => b c o (a c o h)
theorem Same.free {H H' : Hp} (e : Same H H') {l : Addr} (h : H' l = Option.none) : H l = Option.none := by
  cases q : H l with
  | none => rfl
  | some o =>
    rw [e l o q] at h
    cases h
theorem Same.seq {K : PySem.W.Frag} {H H' : Hp} {a : Addr} {xs : List V} (e : Same H H') (h : SqL K H a xs) : SqL K H' a xs := by
  rcases h with (h | ⟨o, h⟩) | h
  · exact .inl (.inl (e _ _ h))
  · exact .inl (.inr ⟨o, e _ _ h⟩)
  · exact .inr h

/-! ### a dict's pairs: keys that differ -/
section
variable {κ : Type} [DecidableEq κ]
end
/-! ### lists -/
theorem at_of {xs : List V} {z : Int} {j : Nat} {v : V} (e : z = (j : Int)) (h : xs[j]? = some v) : atI xs z = some v := by
  rw [e]
  exact atI_nat h
theorem sum_take : ∀ {l : List Int} {i : Nat} {z : Int}, l[i]? = some z → (l.take (i + 1)).sum = (l.take i).sum + z
  | [], i, z, h => by simp at h
  | a :: r, 0, z, h => by
    have e : a = z := Option.some.inj h
    subst e
    show ([a] : List Int).sum = ([] : List Int).sum + a
    rw [List.sum_cons]
    exact Int.add_comm _ _
  | a :: r, i + 1, z, h => by
    have ih := sum_take (l := r) (i := i) (z := z) h
    show (a :: r.take (i + 1)).sum = (a :: r.take i).sum + z
    rw [List.sum_cons, List.sum_cons, ih]
    omega
/-- a new instance and its __init__ leave all that was tracked as it was -/
theorem Same.made {H H1 : Hp} {x dx C : Addr} (nx : H x = Option.none) (nd : H dx = Option.none) (k : ∀ b o, (upd (upd H dx (.own x)) x (.ins C dx [])) b = some o → b ≠ x → H1 b = some o) : Same H H1 := fun b o e =>
  k b o (by rw [upd_ne (ne_of_none e nx), upd_ne (ne_of_none e nd)]; exact e) (ne_of_none e nx)
end L2

section
set_option Elab.async false
set_option linter.all false
set_option maxRecDepth 100000
set_option maxHeartbeats 2000000
namespace L2
open PySem PySem.Spec PyProof.Rows
open PySem.W (WData Codec OpenSpec Well WellAll ReadsW ReadsAllW)
/-! ### an answer as data -/
mutual
/-- x stands for the datum d, lists and tuples all the way -/
inductive Dw (K : PySem.W.Frag) (H : Hp) : V → WData → Prop
  | non : Dw K H .non .none
  | bl (b : Bool) : Dw K H (.bl b) (.bool b)
  | int (i : Int) : Dw K H (.int i) (.int i)
  | str (x : Str) : Dw K H (.str x) (.str x)
  | byt (b : Array UInt8) : Dw K H (.byt b) (.bytes b.toList)
  | lst {a : Addr} {xs : List V} {ds : List WData} : SqL K H a xs → DwAll K H xs ds → Dw K H (.ref a) (.list ds)
  | tup {a : Addr} {xs : List V} {ds : List WData} : SqT K H a xs → DwAll K H xs ds → Dw K H (.ref a) (.tuple ds)
inductive DwAll (K : PySem.W.Frag) (H : Hp) : List V → List WData → Prop
  | nil : DwAll K H [] []
  | cons {v : V} {vs : List V} {d : WData} {ds : List WData} : Dw K H v d → DwAll K H vs ds → DwAll K H (v :: vs) (d :: ds)
end
theorem dw_ints {K : PySem.W.Frag} {H : Hp} : ∀ ns : List Int, DwAll K H (ns.map V.int) (ns.map WData.int)
  | [] => .nil
  | n :: r => .cons (.int n) (dw_ints r)
theorem ints_dw {K : PySem.W.Frag} {H : Hp} : ∀ (ns : List Int) (xs : List V), DwAll K H xs (ns.map WData.int) → xs = ns.map V.int
  | [], xs, h => by
    cases h
    rfl
  | n :: r, xs, h => by
    cases h with
    | cons h1 h2 =>
      cases h1
      rw [ints_dw r _ h2] <;> rfl
section
variable {P : Program} {w : World} {K : PySem.W.Frag} {H : Hp} {h : Heap} {R : PySem.W.WRecords} {cl : Str → Option Addr}
theorem sqL_at {a : Addr} {xs : List V} (hok : HOk P w H h) (KX : K.In h) (q : SqL K H a xs) : ∃ (its : List Value) (o : Obj) (n : Nat), Vals xs its ∧ h.get? a = some o ∧ o.cls = .type "list" ∧ o.data = .seq its.toArray n := by
  rcases q with q | ⟨o, its, n, e, hc, _, hd, _, hv⟩
  · obtain ⟨_, its, n, hv, e⟩ := (show ObjOk P w H h a (.lst xs) from q.ok hok)
    exact ⟨its, _, n, hv, e, rfl, rfl⟩
  · exact ⟨its.toList, o, n, hv, KX _ _ e, hc, by simp [hd]⟩
theorem sqT_at {a : Addr} {xs : List V} (hok : HOk P w H h) (KX : K.In h) (q : SqT K H a xs) : ∃ (its : List Value) (o : Obj) (n : Nat), Vals xs its ∧ h.get? a = some o ∧ o.cls = .type "tuple" ∧ o.data = .seq its.toArray n := by
  rcases q with q | ⟨o, its, n, e, hc, hd, _, hv⟩
  · obtain ⟨_, its, hv, o, e, hc, n, hd⟩ := (show ObjOk P w H h a (.tup xs) from q.ok hok)
    exact ⟨its, o, n, hv, e, hc, hd⟩
  · exact ⟨its.toList, o, n, hv, KX _ _ e, hc, by simp [hd]⟩
mutual
theorem Dw.reads (hok : HOk P w H h) (KX : K.In h) : ∀ (d : WData) (v : V) (u : Value), Dw K H v d → RelV v u → ∃ as, ReadsW R cl h u d as
  | .none, _, _, x, r => by
    cases x
    cases r
    exact ⟨_, ReadsW.none⟩
  | .bool b, _, _, x, r => by
    cases x
    cases r
    exact ⟨_, ReadsW.bool b⟩
  | .int i, _, _, x, r => by
    cases x
    obtain ⟨t, rfl⟩ := r
    exact ⟨_, ReadsW.int i t⟩
  | .str s, _, _, x, r => by
    cases x
    obtain ⟨t, rfl⟩ := r
    exact ⟨_, ReadsW.str s t⟩
  | .bytes b, _, _, x, r => by
    cases x
    obtain ⟨t, rfl⟩ := r
    exact ⟨_, ReadsW.bytes _ t⟩
  | .list ds, _, _, x, r => by
    cases x with
    | lst hs ha =>
      cases r
      obtain ⟨its, o, n, rv, ho, hc, hd⟩ := sqL_at hok KX hs
      obtain ⟨as, hr⟩ := Dw.readsAll hok KX ds _ its ha rv
      exact ⟨_, ReadsW.list ho hc hd hr⟩
  | .tuple ds, _, _, x, r => by
    cases x with
    | tup hs ha =>
      cases r
      obtain ⟨its, o, n, rv, ho, hc, hd⟩ := sqT_at hok KX hs
      obtain ⟨as, hr⟩ := Dw.readsAll hok KX ds _ its ha rv
      exact ⟨_, ReadsW.tuple ho hc hd hr⟩
  | .float _, _, _, x, _ => by cases x
  | .dict _, _, _, x, _ => by cases x
  | .bytearray _, _, _, x, _ => by cases x
  | .set _, _, _, x, _ => by cases x
  | .frozenset _, _, _, x, _ => by cases x
  | .obj _ _, _, _, x, _ => by cases x
theorem Dw.readsAll (hok : HOk P w H h) (KX : K.In h) : ∀ (ds : List WData) (vs : List V) (us : List Value), DwAll K H vs ds → Vals vs us → ∃ as, ReadsAllW R cl h us ds as
  | [], _, _, x, r => by
    cases x
    cases r
    exact ⟨_, ReadsAllW.nil⟩
  | d :: ds, _, _, x, r => by
    cases x with
    | cons h1 h2 =>
      cases r with
      | cons r1 r2 =>
        obtain ⟨as, q1⟩ := Dw.reads hok KX d _ _ h1 r1
        obtain ⟨bs, q2⟩ := Dw.readsAll hok KX ds _ _ h2 r2
        exact ⟨_, ReadsAllW.cons q1 q2⟩
end
end
/-! ### the arguments -/
mutual
/-- data that a codec tells -/
def plW : WData → Bool
  | .none => true
  | .bool _ => true
  | .int _ => true
  | .str _ => true
  | .bytes _ => true
  | .list xs => plWs xs
  | .tuple xs => plWs xs
  | _ => false
def plWs : List WData → Bool
  | [] => true
  | x :: r => plW x && plWs r
end
theorem plWs_map {α : Type} {f : α → WData} (h : ∀ a, plW (f a) = true) : ∀ l : List α, plWs (l.map f) = true
  | [] => rfl
  | x :: r => by
    show (plW (f x) && plWs (r.map f)) = true
    rw [h x, plWs_map h r] <;> rfl
theorem pl_enc : ∀ (c : Codec) (a : c.denote), plW (c.enc a) = true
  | .unit, _ => rfl
  | .bool, _ => rfl
  | .int _ _, _ => rfl
  | .nat _ _, _ => rfl
  | .u8, _ => rfl
  | .bytes _ _, _ => rfl
  | .text _ _ _ _, _ => rfl
  | .list _ _ c, a => plWs_map (fun x => pl_enc c x) a
  | .pair c d, a => by
    show (plW (c.enc a.1) && (plW (d.enc a.2) && true)) = true
    rw [pl_enc c a.1, pl_enc d a.2] <;> rfl
  | .triple c d e, a => by
    show (plW (c.enc a.1) && (plW (d.enc a.2.1) && (plW (e.enc a.2.2) && true))) = true
    rw [pl_enc c a.1, pl_enc d a.2.1, pl_enc e a.2.2] <;> rfl
  | .option c, none => rfl
  | .option c, some x => pl_enc c x
theorem pl_encAll : ∀ (cs : List Codec) (a : Codec.denoteAll cs), plWs (Codec.encAll cs a) = true
  | [], _ => rfl
  | c :: cs, a => by
    show (plW (c.enc a.1) && plWs (Codec.encAll cs a.2)) = true
    rw [pl_enc c a.1, pl_encAll cs a.2] <;> rfl
theorem weight_mem : ∀ {xs : List WData} {d : WData}, d ∈ xs → d.weight ≤ WData.weightAll xs
  | [], d, h => absurd h (by simp)
  | x :: r, d, h => by
    show d.weight ≤ x.weight + 1 + WData.weightAll r
    rcases List.mem_cons.mp h with e | m
    · rw [e]
      omega
    · have z := weight_mem m
      omega
def toV : Value → V
  | .none => .non
  | .bool b => .bl b
  | .int i _ => .int i
  | .str x _ => .str x
  | .bytes b _ => .byt b
  | .ref a => .ref a
  | _ => .non
/-- a value of the arguments, its objects among A -/
def OkU (A : List Addr) : Value → Prop
  | .none => True
  | .bool _ => True
  | .int _ _ => True
  | .str _ _ => True
  | .bytes _ _ => True
  | .ref a => a ∈ A
  | _ => False
theorem OkU.mono {A B : List Addr} (h : ∀ a ∈ A, a ∈ B) : ∀ {u : Value}, OkU A u → OkU B u := fun {u} x => by
  cases u with
  | ref a => exact h a x
  | none => trivial
  | bool b => trivial
  | int i t => trivial
  | str s t => trivial
  | bytes b t => trivial
  | _ => exact False.elim x
theorem relV_toV {A : List Addr} {u : Value} (x : OkU A u) : RelV (toV u) u := by
  cases u with
  | ref a => rfl
  | none => rfl
  | bool b => rfl
  | int i t => exact ⟨t, rfl⟩
  | str s t => exact ⟨t, rfl⟩
  | bytes b t => exact ⟨t, rfl⟩
  | _ => exact False.elim x
theorem vals_toV {A : List Addr} : ∀ {vs : List Value}, (∀ u ∈ vs, OkU A u) → Vals (vs.map toV) vs
  | [], _ => .nil
  | u :: r, h => .cons (relV_toV (h u (List.mem_cons_self ..))) (vals_toV fun x hx => h x (List.mem_cons_of_mem _ hx))
/-- an object of the arguments -/
def ArgOb (h : Heap) (A : List Addr) (a : Addr) : Prop := ∃ vs : List Value, vs.length ≤ sizeLine ∧ (∀ u ∈ vs, OkU A u) ∧
  (h.get? a = some { cls := .type "list", data := .seq vs.toArray } ∨ h.get? a = some { cls := .type "tuple", data := .seq vs.toArray })
theorem ArgOb.mono {h : Heap} {A B : List Addr} {a : Addr} (k : ∀ a ∈ A, a ∈ B) (x : ArgOb h A a) : ArgOb h B a := by
  obtain ⟨vs, h1, h2, h3⟩ := x
  exact ⟨vs, h1, fun u hu => (h2 u hu).mono k, h3⟩
theorem wellAll_len {P : Params} {h : Heap} : ∀ {vs : List Value} {ds : List WData}, WellAll P h vs ds → vs.length = ds.length
  | _, _, .nil => rfl
  | _, _, .cons _ b => by
    show _ + 1 = _ + 1
    rw [wellAll_len b]
theorem well_list {P : Params} {h : Heap} {v : Value} {ds : List WData} (x : Well P h v (.list ds)) : ∃ (a : Addr) (vs : List Value), v = .ref a ∧ h.get? a = some { cls := .type "list", data := .seq vs.toArray } ∧ WellAll P h vs ds := by
  cases x with
  | list ho hall => exact ⟨_, _, rfl, ho, hall⟩
theorem well_tuple {P : Params} {h : Heap} {v : Value} {ds : List WData} (x : Well P h v (.tuple ds)) : ∃ (a : Addr) (vs : List Value), v = .ref a ∧ h.get? a = some { cls := .type "tuple", data := .seq vs.toArray } ∧ WellAll P h vs ds := by
  cases x with
  | tuple ho hall => exact ⟨_, _, rfl, ho, hall⟩
theorem well_cons {P : Params} {h : Heap} {us : List Value} {d : WData} {ds : List WData} (x : WellAll P h us (d :: ds)) : ∃ (v : Value) (vs : List Value), us = v :: vs ∧ Well P h v d ∧ WellAll P h vs ds := by
  cases x with
  | cons a b => exact ⟨_, _, rfl, a, b⟩
theorem line_of {n : Nat} (h : n ≤ 1048576) : n ≤ sizeLine := Nat.le_trans h (by decide)
section
variable {P : Params} {h : Heap}
mutual
theorem area_one : ∀ (d : WData) (v : Value), Well P h v d → plW d = true → d.weight ≤ 1048576 → ∃ A : List Addr, OkU A v ∧ ∀ a ∈ A, ArgOb h A a
  | .none, _, x, _, _ => by
    cases x
    exact ⟨[], trivial, fun a m => absurd m (by simp)⟩
  | .bool b, _, x, _, _ => by
    cases x
    exact ⟨[], trivial, fun a m => absurd m (by simp)⟩
  | .int i, _, x, _, _ => by
    cases x
    exact ⟨[], trivial, fun a m => absurd m (by simp)⟩
  | .str s, _, x, _, _ => by
    cases x
    exact ⟨[], trivial, fun a m => absurd m (by simp)⟩
  | .bytes b, _, x, _, _ => by
    cases x
    exact ⟨[], trivial, fun a m => absurd m (by simp)⟩
  | .list ds, _, x, p, z => by
    obtain ⟨a, vs, rfl, ho, hall⟩ := well_list x
    have z2 : WData.weightAll ds ≤ 1048576 := z
    obtain ⟨A, h1, h2⟩ := area_all ds _ hall p fun d hd => Nat.le_trans (weight_mem hd) z2
    have k : ∀ b ∈ A, b ∈ a :: A := fun b hb => List.mem_cons_of_mem _ hb
    refine ⟨a :: A, List.mem_cons_self .., fun b hb => ?_⟩
    rcases List.mem_cons.mp hb with e | m
    · rw [e]
      exact ⟨vs, line_of (by rw [wellAll_len hall]; exact Nat.le_trans (PySem.W.length_le_weightAllW ds) z2), fun u hu => (h1 u hu).mono k, .inl ho⟩
    · exact (h2 b m).mono k
  | .tuple ds, _, x, p, z => by
    obtain ⟨a, vs, rfl, ho, hall⟩ := well_tuple x
    have z2 : WData.weightAll ds ≤ 1048576 := z
    obtain ⟨A, h1, h2⟩ := area_all ds _ hall p fun d hd => Nat.le_trans (weight_mem hd) z2
    have k : ∀ b ∈ A, b ∈ a :: A := fun b hb => List.mem_cons_of_mem _ hb
    refine ⟨a :: A, List.mem_cons_self .., fun b hb => ?_⟩
    rcases List.mem_cons.mp hb with e | m
    · rw [e]
      exact ⟨vs, line_of (by rw [wellAll_len hall]; exact Nat.le_trans (PySem.W.length_le_weightAllW ds) z2), fun u hu => (h1 u hu).mono k, .inr ho⟩
    · exact (h2 b m).mono k
  | .float _, _, _, p, _ => Bool.noConfusion (show false = true from p)
  | .dict _, _, _, p, _ => Bool.noConfusion (show false = true from p)
  | .bytearray _, _, _, p, _ => Bool.noConfusion (show false = true from p)
  | .set _, _, _, p, _ => Bool.noConfusion (show false = true from p)
  | .frozenset _, _, _, p, _ => Bool.noConfusion (show false = true from p)
  | .obj _ _, _, _, p, _ => Bool.noConfusion (show false = true from p)
theorem area_all : ∀ (ds : List WData) (vs : List Value), WellAll P h vs ds → plWs ds = true → (∀ d ∈ ds, d.weight ≤ 1048576) → ∃ A : List Addr, (∀ u ∈ vs, OkU A u) ∧ ∀ a ∈ A, ArgOb h A a
  | [], _, x, _, _ => by
    cases x
    exact ⟨[], fun u m => absurd m (by simp), fun a m => absurd m (by simp)⟩
  | d :: ds, _, x, p, z => by
    obtain ⟨v, vs, rfl, x1, x2⟩ := well_cons x
    have q : plW d = true ∧ plWs ds = true := Bool.and_eq_true_iff.mp p
    obtain ⟨A, a1, a2⟩ := area_one d v x1 q.1 (z d (List.mem_cons_self ..))
    obtain ⟨B, b1, b2⟩ := area_all ds vs x2 q.2 fun e he => z e (List.mem_cons_of_mem _ he)
    have kA : ∀ b ∈ A, b ∈ A ++ B := fun b hb => List.mem_append.mpr (.inl hb)
    have kB : ∀ b ∈ B, b ∈ A ++ B := fun b hb => List.mem_append.mpr (.inr hb)
    refine ⟨A ++ B, fun u hu => ?_, fun b hb => ?_⟩
    · rcases List.mem_cons.mp hu with e | m
      · rw [e]
        exact a1.mono kA
      · exact (b1 u m).mono kB
    · rcases List.mem_append.mp hb with m | m
      · exact (a2 b m).mono kA
      · exact (b2 b m).mono kB
end
end
/-- what is tracked of an argument's object -/
def hoOf (o : Obj) : Option HO := match o.data with
  | .seq vs _ => if (o.cls == Value.type "list") = true then some (.frz o (.lst (vs.toList.map toV))) else some (.frz o (.tup (vs.toList.map toV)))
  | _ => none
def argH (K : PySem.W.Frag) (h : Heap) (A : List Addr) : Hp := fun b => if b ∈ A then (if (K.lookup b).isNone = true then (h.get? b).bind hoOf else none) else none
/-- nothing is tracked but what is known to the object -/
def OnlyF (H : Hp) : Prop := ∀ b, H b = none ∨ ∃ o u, H b = some (.frz o u)
theorem hoOf_lst (vs : List Value) : hoOf { cls := .type "list", data := .seq vs.toArray } = some (.frz { cls := .type "list", data := .seq vs.toArray } (.lst (vs.map toV))) := by
  show (if (Value.type "list" == Value.type "list") = true then some (HO.frz { cls := .type "list", data := .seq vs.toArray } (.lst (vs.toArray.toList.map toV))) else some (HO.frz { cls := .type "list", data := .seq vs.toArray } (.tup (vs.toArray.toList.map toV)))) = _
  rw [if_pos (beq_self_eq_true _)]
theorem hoOf_tup (vs : List Value) : hoOf { cls := .type "tuple", data := .seq vs.toArray } = some (.frz { cls := .type "tuple", data := .seq vs.toArray } (.tup (vs.map toV))) := by
  show (if (Value.type "tuple" == Value.type "list") = true then some (HO.frz { cls := .type "tuple", data := .seq vs.toArray } (.lst (vs.toArray.toList.map toV))) else some (HO.frz { cls := .type "tuple", data := .seq vs.toArray } (.tup (vs.toArray.toList.map toV)))) = _
  rw [if_neg (by decide)]
section
variable {P : Program} {w : World} {K : PySem.W.Frag} {h : Heap} {A : List Addr}
theorem argH_at {b : Addr} {o : Obj} (hb : b ∈ A) (hk : K.lookup b = none) (e : h.get? b = some o) : argH K h A b = hoOf o := by
  unfold argH
  rw [if_pos hb, hk, if_pos (show (none : Option Obj).isNone = true from rfl), e] <;> rfl
theorem of_argH {b : Addr} {u : HO} (q : argH K h A b = some u) : b ∈ A ∧ K.lookup b = none := by
  unfold argH at q
  by_cases hb : b ∈ A
  · rw [if_pos hb] at q
    cases hk : K.lookup b with
    | none => exact ⟨hb, rfl⟩
    | some o =>
      rw [hk, if_neg (by simp)] at q
      cases q
  · rw [if_neg hb] at q
    cases q
/-- what stands tracked -/
theorem argH_is (ar : ∀ a ∈ A, ArgOb h A a) {b : Addr} {u : HO} (q : argH K h A b = some u) : K.lookup b = none ∧ ∃ vs : List Value, vs.length ≤ sizeLine ∧ (∀ u ∈ vs, OkU A u) ∧
    ((h.get? b = some { cls := .type "list", data := .seq vs.toArray } ∧ u = .frz { cls := .type "list", data := .seq vs.toArray } (.lst (vs.map toV))) ∨
     (h.get? b = some { cls := .type "tuple", data := .seq vs.toArray } ∧ u = .frz { cls := .type "tuple", data := .seq vs.toArray } (.tup (vs.map toV)))) := by
  obtain ⟨hb, hk⟩ := of_argH q
  obtain ⟨vs, h1, h2, h3⟩ := ar b hb
  refine ⟨hk, vs, h1, h2, ?_⟩
  rcases h3 with e | e
  · rw [argH_at hb hk e, hoOf_lst] at q
    exact .inl ⟨e, (Option.some.inj q).symm⟩
  · rw [argH_at hb hk e, hoOf_tup] at q
    exact .inr ⟨e, (Option.some.inj q).symm⟩
theorem argH_only (ar : ∀ a ∈ A, ArgOb h A a) : OnlyF (argH K h A) := fun b => by
  cases q : argH K h A b with
  | none => exact .inl rfl
  | some u =>
    obtain ⟨_, vs, _, _, ⟨_, e⟩ | ⟨_, e⟩⟩ := argH_is ar q
    · exact .inr ⟨_, _, by rw [e]⟩
    · exact .inr ⟨_, _, by rw [e]⟩
theorem argH_ok (ar : ∀ a ∈ A, ArgOb h A a) : HOk P w (argH K h A) h := fun b u q => by
  obtain ⟨_, vs, h1, h2, ⟨e, rfl⟩ | ⟨e, rfl⟩⟩ := argH_is ar q
  · exact ⟨e, by rw [List.length_map]; exact h1, vs, _, vals_toV h2, e⟩
  · exact ⟨e, by rw [List.length_map]; exact h1, vs, vals_toV h2, _, e, rfl, _, rfl⟩
theorem seq_inj {c c' : Value} {vs us : List Value} (e : (some { cls := c, data := .seq vs.toArray } : Option Obj) = some { cls := c', data := .seq us.toArray }) : c = c' ∧ vs = us := by
  have e1 := Option.some.inj e
  have e2 : c = c' := congrArg Obj.cls e1
  have e3 : Data.seq vs.toArray = Data.seq us.toArray := congrArg Obj.data e1
  injection e3 with e4
  refine ⟨e2, ?_⟩
  have e5 := congrArg Array.toList e4
  simpa using e5
/-- a list argument -/
theorem argL (KX : K.In h) (ar : ∀ a ∈ A, ArgOb h A a) {a : Addr} {vs : List Value} (ha : a ∈ A) (e : h.get? a = some { cls := .type "list", data := .seq vs.toArray }) : (∀ u ∈ vs, OkU A u) ∧ SqL K (argH K h A) a (vs.map toV) := by
  obtain ⟨us, h1, h2, h3⟩ := ar a ha
  have hu : us = vs := by
    rcases h3 with q | q
    · rw [e] at q
      exact (seq_inj q).2.symm
    · rw [e] at q
      exact absurd (Value.type.inj (seq_inj q).1) (by decide)
  subst hu
  refine ⟨h2, ?_⟩
  cases hk : K.lookup a with
  | none => exact .inl (.inr ⟨_, by rw [argH_at ha hk e, hoOf_lst]⟩)
  | some o =>
    have e2 := KX a o hk
    rw [e] at e2
    obtain rfl := Option.some.inj e2
    exact .inr ⟨_, us.toArray, _, hk, rfl, rfl, rfl, by rw [List.size_toArray]; exact h1, by simpa using vals_toV h2⟩
theorem argT (KX : K.In h) (ar : ∀ a ∈ A, ArgOb h A a) {a : Addr} {vs : List Value} (ha : a ∈ A) (e : h.get? a = some { cls := .type "tuple", data := .seq vs.toArray }) : (∀ u ∈ vs, OkU A u) ∧ SqT K (argH K h A) a (vs.map toV) := by
  obtain ⟨us, h1, h2, h3⟩ := ar a ha
  have hu : us = vs := by
    rcases h3 with q | q
    · rw [e] at q
      exact absurd (Value.type.inj (seq_inj q).1) (by decide)
    · rw [e] at q
      exact (seq_inj q).2.symm
  subst hu
  refine ⟨h2, ?_⟩
  cases hk : K.lookup a with
  | none => exact .inl (.inr ⟨_, by rw [argH_at ha hk e, hoOf_tup]⟩)
  | some o =>
    have e2 := KX a o hk
    rw [e] at e2
    obtain rfl := Option.some.inj e2
    exact .inr ⟨_, us.toArray, _, hk, rfl, rfl, by rw [List.size_toArray]; exact h1, by simpa using vals_toV h2⟩
mutual
theorem dw_one {Pm : Params} (KX : K.In h) (ar : ∀ a ∈ A, ArgOb h A a) : ∀ (d : WData) (v : Value), Well Pm h v d → plW d = true → OkU A v → Dw K (argH K h A) (toV v) d
  | .none, _, x, _, _ => by
    cases x
    exact .non
  | .bool b, _, x, _, _ => by
    cases x
    exact .bl b
  | .int i, _, x, _, _ => by
    cases x
    exact .int i
  | .str s, _, x, _, _ => by
    cases x
    exact .str s
  | .bytes b, _, x, _, _ => by
    cases x
    have z := Dw.byt (K := K) (H := argH K h A) b.toArray
    exact z
  | .list ds, _, x, p, hu => by
    obtain ⟨a, vs, rfl, ho, hall⟩ := well_list x
    obtain ⟨h2, hs⟩ := argL KX ar hu ho
    exact .lst hs (dw_all KX ar ds _ hall p h2)
  | .tuple ds, _, x, p, hu => by
    obtain ⟨a, vs, rfl, ho, hall⟩ := well_tuple x
    obtain ⟨h2, hs⟩ := argT KX ar hu ho
    exact .tup hs (dw_all KX ar ds _ hall p h2)
  | .float _, _, _, p, _ => Bool.noConfusion (show false = true from p)
  | .dict _, _, _, p, _ => Bool.noConfusion (show false = true from p)
  | .bytearray _, _, _, p, _ => Bool.noConfusion (show false = true from p)
  | .set _, _, _, p, _ => Bool.noConfusion (show false = true from p)
  | .frozenset _, _, _, p, _ => Bool.noConfusion (show false = true from p)
  | .obj _ _, _, _, p, _ => Bool.noConfusion (show false = true from p)
theorem dw_all {Pm : Params} (KX : K.In h) (ar : ∀ a ∈ A, ArgOb h A a) : ∀ (ds : List WData) (vs : List Value), WellAll Pm h vs ds → plWs ds = true → (∀ u ∈ vs, OkU A u) → DwAll K (argH K h A) (vs.map toV) ds
  | [], _, x, _, _ => by
    cases x
    exact .nil
  | d :: ds, _, x, p, hu => by
    obtain ⟨v, vs, rfl, x1, x2⟩ := well_cons x
    have q : plW d = true ∧ plWs ds = true := Bool.and_eq_true_iff.mp p
    exact .cons (dw_one KX ar d v x1 q.1 (hu _ (List.mem_cons_self ..))) (dw_all KX ar ds vs x2 q.2 fun u m => hu u (List.mem_cons_of_mem _ m))
end
end
/-! ### the call -/
theorem spec_call {P : Program} {w : World} {K : PySem.W.Frag} {mg mb : Str → Option Value} {CX : CXT} {k : Nat} {fa : Addr} {fd : FuncData} {ps : List Str} {sp : Sp} {s₁ : Shared} {vals : List Value} {ds : List WData} {R : PySem.W.WRecords} {cl : Str → Option Addr} {d0 : WData}
    (KX : K.In s₁.heap) (hns : s₁.heap.Ns mainGlobals mg) (hb : s₁.heap.Ns builtinsNs mb) (hbb : ∀ x : Str, x ≠ "__name__" → mb x = bootBuiltins x) (hlim : s₁.heap.NoLimit) (hg : s₁.gens = #[])
    (hwl : WellAll w.params s₁.heap vals ds) (hpl : plWs ds = true) (hwt : ∀ d ∈ ds, d.weight ≤ 1048576) (hr : Room k callerA)
    (F : ∀ base : Heap, K.In base → base.Ns mainGlobals mg → FnOk P w K mg base CX k fa fd ps sp) (hbind : ∀ (s : Shared) (us : List Value), us.length = ps.length → BindsTo s fd ⟨us, []⟩ (ps.zip us)) (hlen : ds.length = ps.length)
    (hsp : ∀ (H : Hp) (xs : List V), OnlyF H → DwAll K H xs ds → sp xs H (fun v H' => Dw K H' v d0) fun _ _ _ => False)
    (hCX : ∀ H e s', CX [] H s₁ (fun _ _ _ => False) e s' → False) :
    codeAny (model P w) callerA (.call (.ref fa) ⟨vals, []⟩) (fun r s' => ∃ u as, r = .ok (.ret u) ∧ ReadsW R cl s'.heap u d0 as ∧ OldK s₁.heap s'.heap ∧ s'.os = s₁.os ∧ AllBare s'.gens) s₁ := by
  obtain ⟨A, ho, ar⟩ := area_all ds vals hwl hpl hwt
  have hO : OnlyF (argH K s₁.heap A) := argH_only ar
  have hok : HOk P w (argH K s₁.heap A) s₁.heap := argH_ok ar
  have hS := dw_all KX ar ds vals hwl hpl ho
  have hV := vals_toV ho
  have hK : ∀ b u, argH K s₁.heap A b = some u → K.lookup b = none := fun b u q => (argH_is ar q).1
  have noA : ∀ {b : Addr} {o : Obj} {es : Array DictEntry} {ep : Nat}, s₁.heap.get? b = some o → o.data = .dict es ep → argH K s₁.heap A b = none := fun {b o es ep} e d => by
    cases q : argH K s₁.heap A b with
    | none => rfl
    | some u =>
      obtain ⟨_, vs, _, _, ⟨e2, _⟩ | ⟨e2, _⟩⟩ := argH_is ar q
      · rw [e2] at e
        cases e
        have d' : Data.seq vs.toArray _ = Data.dict es ep := d
        cases d'
      · rw [e2] at e
        cases e
        have d' : Data.seq vs.toArray _ = Data.dict es ep := d
        cases d'
  generalize argH K s₁.heap A = H at hO hok hS hK noA
  have base_of : ∀ {b : Addr} {o : Obj}, s₁.heap.get? b = some o → H b = none → (hidT s₁.heap H).get? b = some o := fun e n => hidT_get e n
  have nsK : ∀ {b : Addr} {m : Str → Option Value}, s₁.heap.Ns b m → (hidT s₁.heap H).Ns b m := fun {b m} ⟨o, es, ep, e, d, r⟩ => ⟨o, es, ep, base_of e (noA e d), d, r⟩
  have nK : ∀ b o, K.lookup b = some o → H b = none := fun b o e => by
    cases q : H b with
    | none => rfl
    | some u =>
      rw [hK b u q] at e
      cases e
  have hKb : K.In (hidT s₁.heap H) := fun b o e => base_of (KX b o e) (nK b o e)
  have hM : Mod K mg (hidT s₁.heap H) := ⟨hKb, nsK hns, ⟨mb, nsK hb, hbb⟩, let ⟨mc, h1, h2⟩ := hlim; ⟨mc, nsK h1, h2⟩⟩
  have e0 : Env0 P w K mg (hidT s₁.heap H) callerA [] s₁ H := ⟨rfl, hM, fun b o e => of_hidT e, Nat.le_of_eq (hidT_size _ _), trivial, fun b hb => absurd (show b ∈ ([] : List Addr) from hb) (by simp), hok, .of_eq hg⟩
  have hl : vals.length = ps.length := by rw [wellAll_len hwl]; exact hlen
  refine codeAny_mono ((F _ hKb (nsK hns)).run callerA [] s₁ H ⟨vals, []⟩ vals (vals.map toV) _ _ hr e0 (hbind s₁ vals hl) hV (hsp H _ hO hS)) fun r s' x => ?_
  cases r with
  | error e => exact (hCX H e s' x).elim
  | ok fl =>
    cases fl with
    | next => exact False.elim x
    | brk => exact False.elim x
    | cont => exact False.elim x
    | ret u =>
      obtain ⟨v, H', os, bare, un, hok', r', q⟩ := x
      have kept : ∀ b o, s₁.heap.get? b = some o → s'.heap.get? b = some o := fun b o e => by
        cases q2 : H b with
        | none => exact un.keep b o e q2 (by intro z; exact absurd (show b ∈ ([] : List Addr) from z) (by simp)) (by simp)
        | some u2 =>
          rcases hO b with z | ⟨ob, u3, z⟩
          · rw [q2] at z
            cases z
          · have z2 := un.frzs b ob _ z
            obtain ⟨e1, _⟩ := hok b _ z
            obtain ⟨e2, _⟩ := hok' b _ z2
            rw [e] at e1
            cases e1
            exact e2
      have KX' : K.In s'.heap := fun b o e => kept b o (KX b o e)
      obtain ⟨as, hrd⟩ := Dw.reads (R := R) (cl := cl) hok' KX' d0 v u q r'
      exact ⟨u, as, rfl, hrd, OldK.of_keep kept, os, bare⟩
/-! ### the row -/
theorem layable_weight {ds : List WData} (h : WData.layableAll ds = true) : ∀ d ∈ ds, d.weight ≤ 1048576 := fun d hd =>
  (PySem.W.layableW_iff.mp (List.all_eq_true.mp h d hd)).2.2
theorem encAll_len : ∀ (cs : List Codec) (a : Codec.denoteAll cs), (Codec.encAll cs a).length = cs.length
  | [], _ => rfl
  | c :: cs, a => by
    show (Codec.encAll cs a.2).length + 1 = cs.length + 1
    rw [encAll_len cs a.2]
/-- the goal that k_headS leaves (case hc), from the promise of the row's def: whatever the arguments that the codecs let and the row asks for, the def gives what stands for enc (f ..) -/
theorem walk_spec {r : OpenSpec} {k : Nat} {q : Program} {loose : List Str} {XP : (Str → Option Value) → Heap → Prop} {YP : World → Heap → Prop} {d : DefRec} {K : Params → PySem.W.Frag} {CX : World → CXT} {ps : List Str} {sp : World → Sp}
    (hwell : r.wellSaid = true) (hdf : d.params.defaults = []) (hlen : r.args.length = ps.length) (hr : Room k callerA)
    (hY : ∀ (w : World) (h : Heap), YP w h → (K w.params).In h)
    (F : ∀ (w : World) (mg : Str → Option Value) (fa : Addr) (h : Heap), YP w h → (K w.params).In h → h.Ns mainGlobals mg → mg d.name = some (.ref fa) →
      ∃ fd : FuncData, (∀ (s : Shared) (us : List Value), us.length = ps.length → BindsTo s fd ⟨us, []⟩ (ps.zip us)) ∧
        ∀ base : Heap, (K w.params).In base → base.Ns mainGlobals mg → FnOk r.prog w (K w.params) mg base (CX w) k fa fd ps (sp w))
    (hsp : ∀ (w : World) (H : Hp) (xs : List V) (a : Codec.denoteAll r.args), OnlyF H → Codec.withinAll r.args a = true → Codec.app r.args r.asked a = true → DwAll (K w.params) H xs (Codec.encAll r.args a) →
      sp w xs H (fun v H' => Dw (K w.params) H' v (r.ret.enc (Codec.app r.args r.f a))) fun _ _ _ => False)
    (hCX : ∀ (w : World) (H : Hp) (s : Shared) (e : Value) (s' : Shared), CX w [] H s (fun _ _ _ => False) e s' → False) :
    PySem.W.WalkOS q loose XP YP r d [] (fun f vs => PySem.call f vs) := by
  intro w s_0 s₁ mg mb G Y fa o pm cd doc dV kV ho hd hcd hD hmg hg args vals as hpre hlay hrd hwl hlo
  obtain ⟨a, e1, e2⟩ := PySem.W.os_pre_some hpre
  obtain ⟨e3, hwi⟩ := Codec.encAll_of_decAll r.args args a e1
  subst e3
  have KX := hY w _ Y
  obtain ⟨fd, hb, hF⟩ := F w mg fa _ Y KX G.T.g hmg
  refine PySem.W.enter_call (codeAny_mono (spec_call (R := []) (cl := classAt s_0.heap) (d0 := r.ret.enc (Codec.app r.args r.f a)) KX G.T.g G.T.b G.T.builtins G.T.nolimit hg hwl (pl_encAll _ _) (layable_weight hlay) hr hF hb (by rw [encAll_len]; exact hlen)
    (fun H xs hO hS => hsp w H xs a hO hwi e2 hS) fun H e s' => hCX w H s₁ e s') fun r' s' hq => ?_)
  obtain ⟨u, as', rfl, h1, h2, h3, h4⟩ := hq
  exact ⟨.inl ⟨u, _, as', rfl, fun _ => rfl, h1, (OpenSpec.post_iff hwell hwi _ _).mpr rfl, fun z => Bool.noConfusion (show false = true from z)⟩, h2, h3, h4⟩
/-- the same where the promise hangs on the written part alone -/
theorem walk_specK {r : OpenSpec} {k : Nat} {q : Program} {loose : List Str} {XP : (Str → Option Value) → Heap → Prop} {YP : World → Heap → Prop} {d : DefRec} {K : Params → PySem.W.Frag} {CX : CXT} {ps : List Str} {sp : PySem.W.Frag → Sp}
    (hwell : r.wellSaid = true) (hdf : d.params.defaults = []) (hlen : r.args.length = ps.length) (hr : Room k callerA)
    (hY : ∀ (w : World) (h : Heap), YP w h → (K w.params).In h)
    (F : ∀ (w : World) (mg : Str → Option Value) (fa : Addr) (h : Heap), YP w h → (K w.params).In h → h.Ns mainGlobals mg → mg d.name = some (.ref fa) →
      ∃ fd : FuncData, (∀ (s : Shared) (us : List Value), us.length = ps.length → BindsTo s fd ⟨us, []⟩ (ps.zip us)) ∧
        ∀ base : Heap, (K w.params).In base → base.Ns mainGlobals mg → FnOk r.prog w (K w.params) mg base CX k fa fd ps (sp (K w.params)))
    (hsp : ∀ (K : PySem.W.Frag) (H : Hp) (xs : List V) (a : Codec.denoteAll r.args), OnlyF H → Codec.withinAll r.args a = true → Codec.app r.args r.asked a = true → DwAll K H xs (Codec.encAll r.args a) →
      sp K xs H (fun v H' => Dw K H' v (r.ret.enc (Codec.app r.args r.f a))) fun _ _ _ => False)
    (hCX : ∀ (H : Hp) (s : Shared) (e : Value) (s' : Shared), CX [] H s (fun _ _ _ => False) e s' → False) :
    PySem.W.WalkOS q loose XP YP r d [] (fun f vs => PySem.call f vs) :=
  walk_spec (K := K) (CX := fun _ => CX) (sp := fun w => sp (K w.params)) hwell hdf hlen hr hY F (fun w H xs a h1 h2 h3 h4 => hsp (K w.params) H xs a h1 h2 h3 h4) fun _ H s e s' => hCX H s e s'
end L2
end
end
section
set_option Elab.async false
set_option linter.all false
set_option maxRecDepth 100000
namespace WA
open Mu55
/-! ### the ends of a way by counting -/
def endX (x : Int) (w : List Int) : Int := x + (w.count 0 : Nat) - (w.count 1 : Nat)
def endY (y : Int) (w : List Int) : Int := y + (w.count 2 : Nat) - (w.count 3 : Nat)
/-- each step is 0 to 3 -/
def Steps (w : List Int) : Prop := ∀ s ∈ w, 0 ≤ s ∧ s < 4
def NonNeg (w : List Int) : Prop := ∀ s ∈ w, 0 ≤ s
abbrev nats (w : List Int) : List Nat := Mu55Neutral.nats w
theorem Steps.tail {s : Int} {w : List Int} (h : Steps (s :: w)) : Steps w := fun z hz => h z (List.mem_cons_of_mem _ hz)
theorem Steps.head {s : Int} {w : List Int} (h : Steps (s :: w)) : 0 ≤ s ∧ s < 4 := h s List.mem_cons_self
theorem NonNeg.tail {s : Int} {w : List Int} (h : NonNeg (s :: w)) : NonNeg w := fun z hz => h z (List.mem_cons_of_mem _ hz)
theorem nats_cons (s : Int) (w : List Int) : nats (s :: w) = s.toNat :: nats w := rfl
theorem nats_len (w : List Int) : (nats w).length = w.length := by simp [Mu55Neutral.nats]
theorem next_end (p : Pt) {s : Int} (h0 : 0 ≤ s) (h4 : s < 4) : next p s.toNat = ⟨endX p.x [s], endY p.y [s]⟩ := by
  have h : s = 0 ∨ s = 1 ∨ s = 2 ∨ s = 3 := by omega
  rcases h with rfl | rfl | rfl | rfl
  · show (⟨p.x + 1, p.y⟩ : Pt) = ⟨p.x + 1 - 0, p.y + 0 - 0⟩
    congr 1 <;> omega
  · show (⟨p.x - 1, p.y⟩ : Pt) = ⟨p.x + 0 - 1, p.y + 0 - 0⟩
    congr 1 <;> omega
  · show (⟨p.x, p.y + 1⟩ : Pt) = ⟨p.x + 0 - 0, p.y + 1 - 0⟩
    congr 1 <;> omega
  · show (⟨p.x, p.y - 1⟩ : Pt) = ⟨p.x + 0 - 0, p.y + 0 - 1⟩
    congr 1 <;> omega
theorem endX_cons (x s : Int) (w : List Int) : endX x (s :: w) = endX (endX x [s]) w := by
  unfold endX
  simp only [List.count_cons, List.count_nil]
  split <;> split <;> omega
theorem endY_cons (y s : Int) (w : List Int) : endY y (s :: w) = endY (endY y [s]) w := by
  unfold endY
  simp only [List.count_cons, List.count_nil]
  split <;> split <;> omega
theorem ending_cons (p : Pt) (s : Nat) (w : Way) : ending p (s :: w) = ending (next p s) w := rfl
theorem ending_eq : ∀ (w : List Int) (p : Pt), Steps w → ending p (nats w) = ⟨endX p.x w, endY p.y w⟩
  | [], p, _ => by
    show p = ⟨p.x + 0 - 0, p.y + 0 - 0⟩
    rw [Int.add_zero, Int.add_zero, Int.sub_zero, Int.sub_zero]
  | s :: w, p, h => by
    rw [nats_cons, ending_cons, next_end p h.head.1 h.head.2, ending_eq w _ h.tail, endX_cons p.x s w, endY_cons p.y s w]
/-! ### a way that may be gone -/
def good (p : Pt) : Way → Bool
  | [] => true
  | s :: w => decide (s < 4) && (onPaper (next p s) && good (next p s) w)
theorem good_eq : ∀ (w : Way) (p : Pt), (w.all (fun (x : Nat) => decide (x < 4)) && (corners p w).all onPaper) = (onPaper p && good p w)
  | [], p => by simp [corners, good]
  | s :: w, p => by
    have ih := good_eq w (next p s)
    simp only [List.all_cons, corners, good]
    cases h1 : decide (s < 4) <;> cases h2 : onPaper p <;> simp_all
theorem isWay_good (st : State) (w : Way) (h : onPaper st.here = true) : isWay st w = (decide (w.length ≤ 40) && good st.here w) := by
  unfold isWay
  rw [good_eq, h]
  rfl
theorem good_steps : ∀ (w : List Int) (p : Pt), NonNeg w → good p (nats w) = true → Steps w
  | [], _, _, _ => fun z hz => by cases hz
  | s :: w, p, hn, hg => by
    rw [nats_cons] at hg
    unfold good at hg
    rw [Bool.and_eq_true, Bool.and_eq_true] at hg
    have h1 : s.toNat < 4 := of_decide_eq_true hg.1
    have h0 : 0 ≤ s := hn s List.mem_cons_self
    have ih := good_steps w _ hn.tail hg.2.2
    intro z hz
    rcases List.mem_cons.mp hz with rfl | hz
    · omega
    · exact ih z hz
theorem good_end : ∀ (w : Way) (p : Pt), onPaper p = true → good p w = true → onPaper (ending p w) = true
  | [], _, h, _ => h
  | s :: w, p, h, hg => by
    unfold good at hg
    rw [Bool.and_eq_true, Bool.and_eq_true] at hg
    exact good_end w _ hg.2.1 hg.2.2
theorem isWay_steps {st : State} {w : List Int} (h : onPaper st.here = true) (hn : NonNeg w) (hw : isWay st (nats w) = true) : Steps w := by
  rw [isWay_good st _ h, Bool.and_eq_true] at hw
  exact good_steps w _ hn hw.2
theorem isWay_end {st : State} {w : Way} (h : onPaper st.here = true) (hw : isWay st w = true) : onPaper (ending st.here w) = true := by
  rw [isWay_good st _ h, Bool.and_eq_true] at hw
  exact good_end w _ h hw.2
theorem isWay_len {st : State} {w : Way} (hw : isWay st w = true) : w.length ≤ 40 := by
  unfold isWay at hw
  rw [Bool.and_eq_true] at hw
  exact of_decide_eq_true hw.1
/-! ### the upright steps -/
def upr (x y : Int) : List Int → List (Int × Int × Int)
  | [] => []
  | s :: w => if s = 0 then upr (x + 1) y w else if s = 1 then upr (x - 1) y w else if s = 2 then (x, y, 1) :: upr x (y + 1) w else (x, y - 1, -1) :: upr x (y - 1) w
def fT (r : Int × Int × Int) : Int := r.1 * r.2.2
def fR (qx qy : Int) (r : Int × Int × Int) : Int := if r.2.1 = qy ∧ qx < r.1 then r.2.2 else 0
theorem upr_sense : ∀ (w : List Int) (x y : Int), ∀ r ∈ upr x y w, r.2.2 = 1 ∨ r.2.2 = -1
  | [], _, _ => fun r hr => by cases hr
  | s :: w, x, y => by
    intro r hr
    unfold upr at hr
    split at hr
    · exact upr_sense w _ _ r hr
    · split at hr
      · exact upr_sense w _ _ r hr
      · split at hr
        · rcases List.mem_cons.mp hr with rfl | hr
          · exact .inl rfl
          · exact upr_sense w _ _ r hr
        · rcases List.mem_cons.mp hr with rfl | hr
          · exact .inr rfl
          · exact upr_sense w _ _ r hr
theorem upr_len : ∀ (w : List Int) (x y : Int), (upr x y w).length ≤ w.length
  | [], _, _ => Nat.le_refl _
  | s :: w, x, y => by
    have := upr_len w (x + 1) y
    have := upr_len w (x - 1) y
    have := upr_len w x (y + 1)
    have := upr_len w x (y - 1)
    unfold upr
    rw [List.length_cons]
    split
    · omega
    · split
      · omega
      · split <;> rw [List.length_cons] <;> omega
theorem next0 (p : Pt) : next p 0 = ⟨p.x + 1, p.y⟩ := rfl
theorem next1 (p : Pt) : next p 1 = ⟨p.x - 1, p.y⟩ := rfl
theorem next2 (p : Pt) : next p 2 = ⟨p.x, p.y + 1⟩ := rfl
theorem next3 (p : Pt) : next p 3 = ⟨p.x, p.y - 1⟩ := rfl
theorem turn_upr : ∀ (w : List Int) (p : Pt), Steps w → ((upr p.x p.y w).map fT).sum = turn p (nats w)
  | [], _, _ => rfl
  | s :: w, p, h => by
    have h4 := h.head
    have h : s = 0 ∨ s = 1 ∨ s = 2 ∨ s = 3 := by omega
    rename_i ht
    rcases h with rfl | rfl | rfl | rfl
    · have ih := turn_upr w (next p 0) ht.tail
      show ((upr (p.x + 1) p.y w).map fT).sum = 0 + turn (next p 0) (nats w)
      rw [← ih, Int.zero_add]
      rfl
    · have ih := turn_upr w (next p 1) ht.tail
      show ((upr (p.x - 1) p.y w).map fT).sum = 0 + turn (next p 1) (nats w)
      rw [← ih, Int.zero_add]
      rfl
    · have ih := turn_upr w (next p 2) ht.tail
      show (((p.x, p.y, 1) :: upr p.x (p.y + 1) w).map fT).sum = p.x + turn (next p 2) (nats w)
      rw [← ih, List.map_cons, List.sum_cons]
      show p.x * 1 + _ = _
      rw [Int.mul_one]
      rfl
    · have ih := turn_upr w (next p 3) ht.tail
      show (((p.x, p.y - 1, -1) :: upr p.x (p.y - 1) w).map fT).sum = -p.x + turn (next p 3) (nats w)
      rw [← ih, List.map_cons, List.sum_cons]
      show p.x * (-1) + _ = _
      rw [Int.mul_neg, Int.mul_one]
      rfl
theorem round_upr (q : Pt) : ∀ (w : List Int) (p : Pt), Steps w → ((upr p.x p.y w).map (fR q.x q.y)).sum = round_ p q (nats w)
  | [], _, _ => rfl
  | s :: w, p, ht => by
    have h4 := ht.head
    have h : s = 0 ∨ s = 1 ∨ s = 2 ∨ s = 3 := by omega
    rcases h with rfl | rfl | rfl | rfl
    · have ih := round_upr q w (next p 0) ht.tail
      show ((upr (p.x + 1) p.y w).map (fR q.x q.y)).sum = (if (0 : Nat) = 2 ∧ _ then _ else if (0 : Nat) = 3 ∧ _ then _ else _) + round_ (next p 0) q (nats w)
      rw [← ih, if_neg (by omega), if_neg (by omega), Int.zero_add]
      rfl
    · have ih := round_upr q w (next p 1) ht.tail
      show ((upr (p.x - 1) p.y w).map (fR q.x q.y)).sum = (if (1 : Nat) = 2 ∧ _ then _ else if (1 : Nat) = 3 ∧ _ then _ else _) + round_ (next p 1) q (nats w)
      rw [← ih, if_neg (by omega), if_neg (by omega), Int.zero_add]
      rfl
    · have ih := round_upr q w (next p 2) ht.tail
      show (((p.x, p.y, 1) :: upr p.x (p.y + 1) w).map (fR q.x q.y)).sum = (if (2 : Nat) = 2 ∧ p.y = q.y ∧ q.x < p.x then 1 else if (2 : Nat) = 3 ∧ _ then _ else _) + round_ (next p 2) q (nats w)
      rw [← ih, List.map_cons, List.sum_cons]
      show (if p.y = q.y ∧ q.x < p.x then 1 else 0) + _ = _
      congr 1
      by_cases hc : p.y = q.y ∧ q.x < p.x
      · rw [if_pos hc, if_pos ⟨rfl, hc⟩]
      · rw [if_neg hc, if_neg (fun z => hc z.2), if_neg (by omega)]
    · have ih := round_upr q w (next p 3) ht.tail
      show (((p.x, p.y - 1, -1) :: upr p.x (p.y - 1) w).map (fR q.x q.y)).sum = (if (3 : Nat) = 2 ∧ _ then _ else if (3 : Nat) = 3 ∧ p.y - 1 = q.y ∧ q.x < p.x then -1 else 0) + round_ (next p 3) q (nats w)
      rw [← ih, List.map_cons, List.sum_cons]
      show (if p.y - 1 = q.y ∧ q.x < p.x then -1 else 0) + _ = _
      rw [if_neg (show ¬ ((3 : Nat) = 2 ∧ p.y = q.y ∧ q.x < p.x) by omega)]
      congr 1
      by_cases hc : p.y - 1 = q.y ∧ q.x < p.x
      · rw [if_pos hc, if_pos ⟨rfl, hc⟩]
      · rw [if_neg hc, if_neg (fun z => hc z.2)]
end WA
namespace WA
open Mu55
theorem pt_beq (a b c d : Int) : ((⟨a, b⟩ : Pt) == ⟨c, d⟩) = decide (a = c ∧ b = d) := by
  show (a == c && b == d) = _
  rw [Bool.decide_and, Bool.beq_eq_decide_eq, Bool.beq_eq_decide_eq]
theorem closes_eq {st : State} {w : List Int} (h : Steps w) : closes st (nats w) = decide (endX st.here.x w = st.here.x ∧ endY st.here.y w = st.here.y) := by
  unfold closes
  rw [ending_eq w _ h]
  exact pt_beq _ _ _ _
end WA
namespace WA
open Mu55
/-! ### squares: the program's order and the specification's -/
def sqs (i j : Nat) : List (Nat × Nat) := ((List.range i).flatMap fun a => (List.range 8).map fun b => (a, b)) ++ (List.range j).map fun b => (i, b)
theorem sqs_succ (i j : Nat) : sqs i (j + 1) = sqs i j ++ [(i, j)] := by
  unfold sqs
  rw [List.range_succ (n := j), List.map_append, List.append_assoc]
  rfl
theorem sqs_next (i : Nat) : sqs (i + 1) 0 = sqs i 8 := by
  unfold sqs
  rw [List.range_succ (n := i), List.flatMap_append]
  simp
def sqs2 : List (Nat × Nat) := (List.range 8).flatMap fun j => (List.range 8).map fun i => (i, j)
theorem sqs_perm : (sqs 8 0).Perm sqs2 := by decide +kernel
theorem squares_eq : squares = sqs2.map fun q => (⟨(q.1 : Int), (q.2 : Int)⟩ : Pt) := by decide +kernel
def bigs (f : Nat × Nat → Nat) (l : List (Nat × Nat)) : Nat := l.foldl (fun a q => max a (f q)) 0
theorem bigs_snoc (f : Nat × Nat → Nat) (l : List (Nat × Nat)) (q : Nat × Nat) : bigs f (l ++ [q]) = max (bigs f l) (f q) := by
  unfold bigs
  rw [List.foldl_append]
  rfl
theorem foldl_max_le (f : Nat × Nat → Nat) : ∀ (l : List (Nat × Nat)) (a m : Nat), l.foldl (fun a q => max a (f q)) a ≤ m ↔ a ≤ m ∧ ∀ q ∈ l, f q ≤ m
  | [], a, m => by simp
  | x :: l, a, m => by
    rw [List.foldl_cons, foldl_max_le f l]
    constructor
    · intro ⟨h1, h2⟩
      refine ⟨by omega, fun q hq => ?_⟩
      rcases List.mem_cons.mp hq with rfl | hq
      · omega
      · exact h2 q hq
    · intro ⟨h1, h2⟩
      have := h2 x List.mem_cons_self
      exact ⟨by omega, fun q hq => h2 q (List.mem_cons_of_mem _ hq)⟩
theorem bigs_perm (f : Nat × Nat → Nat) {l l' : List (Nat × Nat)} (h : l.Perm l') : bigs f l = bigs f l' := by
  unfold bigs
  apply Nat.le_antisymm
  · exact (foldl_max_le f l 0 _).mpr ⟨Nat.zero_le _, fun q hq => ((foldl_max_le f l' 0 _).mp (Nat.le_refl _)).2 q (h.mem_iff.mp hq)⟩
  · exact (foldl_max_le f l' 0 _).mpr ⟨Nat.zero_le _, fun q hq => ((foldl_max_le f l 0 _).mp (Nat.le_refl _)).2 q (h.mem_iff.mpr hq)⟩
def cnt (g : Nat × Nat → Int) (l : List (Nat × Nat)) : Nat := (l.filter fun q => g q != 0).length
def big (g : Nat × Nat → Int) (l : List (Nat × Nat)) : Nat := bigs (fun q => (g q).natAbs) l
theorem cnt_snoc (g : Nat × Nat → Int) (l : List (Nat × Nat)) (q : Nat × Nat) : cnt g (l ++ [q]) = cnt g l + (if g q = 0 then 0 else 1) := by
  unfold cnt
  rw [List.filter_append, List.length_append]
  congr 1
  by_cases h : g q = 0
  · rw [if_pos h]
    simp [h]
  · rw [if_neg h]
    simp [h]
theorem big_snoc (g : Nat × Nat → Int) (l : List (Nat × Nat)) (q : Nat × Nat) : big g (l ++ [q]) = max (big g l) (g q).natAbs := bigs_snoc _ l q
theorem within_len (p : Pt) (w : Way) : (within_ p w).length = cnt (fun q => round_ p ⟨(q.1 : Int), (q.2 : Int)⟩ w) (sqs 8 0) := by
  unfold cnt
  unfold within_
  rw [squares_eq, List.filter_map, List.length_map, (sqs_perm.filter _).length_eq]
  rfl
theorem often_bigs (p : Pt) (w : Way) : often p w = big (fun q => round_ p ⟨(q.1 : Int), (q.2 : Int)⟩ w) (sqs 8 0) := by
  unfold big
  unfold often most
  rw [squares_eq, List.map_map, List.foldl_map, bigs_perm _ sqs_perm]
  rfl
end WA
namespace WA
/-! ### calls as one list -/
theorem flat_call {shape : Int → Option (Nat × Nat)} {p : Int} {r t : List Int} {c : List (List Int)} (h : PyFlat.call shape (p :: r) = some (c, t)) :
    ∃ (n k : Nat) (xs : List (List Int)), shape p = some (n, k) ∧ n ≤ r.length ∧ PyFlat.rows k (r.drop n) = some (xs, t) ∧ c = (p :: r.take n) :: xs := by
  cases hs : shape p with
  | none =>
    simp only [PyFlat.call, hs] at h
    cases h
  | some nk =>
    obtain ⟨n, k⟩ := nk
    simp only [PyFlat.call, hs] at h
    by_cases hl : r.length < n
    · rw [if_pos hl] at h
      cases h
    · rw [if_neg hl] at h
      cases hr : PyFlat.rows k (r.drop n) with
      | none =>
        rw [hr] at h
        cases h
      | some y =>
        obtain ⟨xs, t'⟩ := y
        rw [hr] at h
        have h : some ((p :: r.take n) :: xs, t') = some (c, t) := h
        cases h
        exact ⟨n, k, xs, rfl, by omega, hr, rfl⟩
theorem flat_calls {shape : Int → Option (Nat × Nat)} {f : Nat} {p : Int} {r : List Int} {rest : List (List (List Int))} (h : PyFlat.calls shape f (p :: r) = some rest) :
    ∃ (f' n k : Nat) (xs : List (List Int)) (t : List Int) (cs : List (List (List Int))), shape p = some (n, k) ∧ n ≤ r.length ∧ PyFlat.rows k (r.drop n) = some (xs, t) ∧ PyFlat.calls shape f' t = some cs ∧ rest = ((p :: r.take n) :: xs) :: cs := by
  cases f with
  | zero => cases h
  | succ f' =>
    rw [PyFlat.calls] at h
    cases hc : PyFlat.call shape (p :: r) with
    | none =>
      rw [hc] at h
      cases h
    | some y =>
      obtain ⟨c, t⟩ := y
      rw [hc] at h
      cases hcs : PyFlat.calls shape f' t with
      | none =>
        simp only [hcs] at h
        cases h
      | some cs =>
        simp only [hcs] at h
        cases h
        obtain ⟨n, k, xs, h1, h2, h3, rfl⟩ := flat_call hc
        exact ⟨f', n, k, xs, t, cs, h1, h2, h3, hcs, rfl⟩
theorem flat_row {r x s : List Int} (h : PyFlat.row r = some (x, s)) : ∃ (n : Int) (r' : List Int), r = n :: r' ∧ 0 ≤ n ∧ n.toNat ≤ r'.length ∧ x = r'.take n.toNat ∧ s = r'.drop n.toNat := by
  cases r with
  | nil => cases h
  | cons n r' =>
    rw [PyFlat.row] at h
    by_cases hn : 0 ≤ n ∧ n.toNat ≤ r'.length
    · rw [if_pos hn] at h
      cases h
      exact ⟨n, r', rfl, hn.1, hn.2, rfl, rfl⟩
    · rw [if_neg hn] at h
      cases h
theorem flat_rows {k : Nat} {r : List Int} {xs : List (List Int)} {t : List Int} (h : PyFlat.rows (k + 1) r = some (xs, t)) :
    ∃ (n : Int) (r' : List Int) (ys : List (List Int)), r = n :: r' ∧ 0 ≤ n ∧ n.toNat ≤ r'.length ∧ PyFlat.rows k (r'.drop n.toNat) = some (ys, t) ∧ xs = r'.take n.toNat :: ys := by
  rw [PyFlat.rows] at h
  cases hx : PyFlat.row r with
  | none =>
    rw [hx] at h
    cases h
  | some y =>
    obtain ⟨x, s⟩ := y
    rw [hx] at h
    cases hy : PyFlat.rows k s with
    | none =>
      simp only [hy] at h
      cases h
    | some y =>
      obtain ⟨ys, t'⟩ := y
      simp only [hy] at h
      cases h
      obtain ⟨n, r', h1, h2, h3, rfl, rfl⟩ := flat_row hx
      exact ⟨n, r', ys, h1, h2, h3, hy, rfl⟩
theorem flat_rows0 {r : List Int} {xs : List (List Int)} {t : List Int} (h : PyFlat.rows 0 r = some (xs, t)) : xs = [] ∧ t = r := by
  unfold PyFlat.rows at h
  cases h
  exact ⟨rfl, rfl⟩
theorem flat_nil {shape : Int → Option (Nat × Nat)} {f : Nat} {rest : List (List (List Int))} (h : PyFlat.calls shape f [] = some rest) : rest = [] := by
  unfold PyFlat.calls at h
  cases h
  rfl
theorem whole_id (c : List (List Int)) : PyMu55.whole c = c := by
  unfold PyMu55.whole
  split <;> rfl
theorem map_whole (cs : List (List (List Int))) : cs.map PyMu55.whole = cs := by
  have e : PyMu55.whole = id := funext whole_id
  rw [e, List.map_id]
end WA
namespace WA
/-- a call that may be handed in -/
inductive Form : List (List Int) → Prop
  | begin_ (x y : Int) : 0 ≤ x → 0 ≤ y → Form [[0, x, y]]
  | go (w : List Int) : NonNeg w → Form [[1], w]
  | zero : Form [[2]]
  | area (w : List Int) : NonNeg w → Form [[3], w]
  | round (x y : Int) (w : List Int) : 0 ≤ x → 0 ≤ y → NonNeg w → Form [[4, x, y], w]
  | squares (w : List Int) : NonNeg w → Form [[5], w]
  | corners (w : List Int) : NonNeg w → Form [[6], w]
  | between (v w : List Int) : NonNeg v → NonNeg w → Form [[7], v, w]
  | straight (w : List Int) : NonNeg w → Form [[8], w]
  | shortest (n : Int) : 0 ≤ n → n ≤ 99 → Form [[9, n]]
  | home : Form [[10]]
  | look : Form [[11]]
theorem way_nn {w : List Int} (h : Mu55Neutral.way w = true) : NonNeg w := by
  unfold Mu55Neutral.way at h
  rw [Bool.and_eq_true] at h
  intro s hs
  have := List.all_eq_true.mp h.2 s hs
  unfold Mu55Neutral.nine NeutralIO.within at this
  rw [Bool.and_eq_true] at this
  exact of_decide_eq_true this.1
theorem twenty_nn {x : Int} (h : Mu55Neutral.twenty x = true) : 0 ≤ x := by
  unfold Mu55Neutral.twenty NeutralIO.within at h
  rw [Bool.and_eq_true] at h
  exact of_decide_eq_true h.1
theorem asked_form {c : List (List Int)} (h : Mu55Neutral.asked1 c = true) : Form c := by
  unfold Mu55Neutral.asked1 at h
  split at h
  · rw [Bool.and_eq_true] at h
    exact .begin_ _ _ (twenty_nn h.1) (twenty_nn h.2)
  · exact .go _ (way_nn h)
  · exact .zero
  · exact .area _ (way_nn h)
  · rw [Bool.and_eq_true, Bool.and_eq_true] at h
    exact .round _ _ _ (twenty_nn h.1) (twenty_nn h.2.1) (way_nn h.2.2)
  · exact .squares _ (way_nn h)
  · exact .corners _ (way_nn h)
  · rw [Bool.and_eq_true] at h
    exact .between _ _ (way_nn h.1) (way_nn h.2)
  · exact .straight _ (way_nn h)
  · unfold NeutralIO.within at h
    rw [Bool.and_eq_true] at h
    exact .shortest _ (of_decide_eq_true h.1) (of_decide_eq_true h.2)
  · exact .home
  · exact .look
  · cases h
/-- what is asked of a list of calls -/
theorem asked_raw {l : List Int} (h : PyMu55.answers_asked l = true) : ∃ raw, PyFlat.calls PyMu55.shape l.length l = some raw ∧ (∀ c ∈ raw, Form c) ∧
    PyMu55.answers l = PyFlat.told (PyFlat.played Mu55Neutral.step none raw) ∧ (PyMu55.answers l).length ≤ 10000000 := by
  unfold PyMu55.answers_asked at h
  cases hr : PyFlat.calls PyMu55.shape l.length l with
  | none =>
    rw [hr] at h
    cases h
  | some raw =>
    rw [hr] at h
    simp only [Bool.and_eq_true] at h
    refine ⟨raw, rfl, fun c hc => ?_, ?_, ?_⟩
    · have h4 := h.1.2
      rw [map_whole] at h4
      unfold Mu55Neutral.asked at h4
      rw [Bool.and_eq_true, Bool.and_eq_true] at h4
      exact asked_form (List.all_eq_true.mp h4.2.2 c hc)
    · unfold PyMu55.answers PyMu55.calls
      rw [hr]
      show PyFlat.told (PyFlat.played Mu55Neutral.step Mu55Neutral.start (raw.map PyMu55.whole)) = _
      rw [map_whole]
      rfl
    · have h5 := h.2
      unfold PyFlat.short at h5
      exact of_decide_eq_true h5
theorem told_cons (a : List Int) (r : List (List Int)) : PyFlat.told (a :: r) = (a.length : Int) :: a ++ PyFlat.told r := by
  unfold PyFlat.told
  rw [List.flatMap_cons]
theorem played_cons {S : Type} (st : S → List (List Int) → S × List Int) (s : S) (c : List (List Int)) (r : List (List (List Int))) : PyFlat.played st s (c :: r) = (st s c).2 :: PyFlat.played st (st s c).1 r := rfl
end WA
end
section
set_option Elab.async false
set_option linter.all false
set_option maxRecDepth 100000
namespace WA
open PySem PySem.Spec PyProof.Rows L2
/-! ### rules that the layer lacks -/
section
variable {X : Cx}
/-- a module's whole number -/
theorem pe_gi {x : Str} {i : Int} {pos : Pos} (hg : Gl X x) (h : ∃ t, X.mg x = some (Value.int i t)) (hd : (x == ("__debug__" : Str)) = false := by decide) : PE X (.Name x pos) (tC (.int i)) := by
  obtain ⟨t, e⟩ := h
  exact pe_glob hg e ⟨t, rfl⟩ hd
/-- xs.count(k) of a list of whole numbers -/
def rCount (K : PySem.W.Frag) : V → List V → Hp → VK → Prop := fun x xs H Q => ∃ (a : Addr) (ns : List Int) (k : Int), x = V.ref a ∧ xs = [V.int k] ∧ SqL K H a (ns.map V.int) ∧ Q (.int (ns.count k : Nat)) H
theorem mt_lcount : MtR X "list.count" (rCount X.K) := by
  intro pins s σ H x xs v us Q I rx rxs h
  obtain ⟨a, ns, k, rfl, rfl, hs, q⟩ := h
  cases rx
  obtain ⟨u, rfl, ru⟩ := Vals.one rxs
  obtain ⟨t, rfl⟩ := ru
  obtain ⟨its, rv, hl, _⟩ := I.list hs
  exact count_list_ints hl.isList rv.ints ⟨.int _, H, I.tok _, ⟨_, rfl⟩, q⟩
end
/-! ### heaps that only grow -/
theorem same_new {H : Hp} {p : Addr} {o : HO} (h : H p = Option.none) : Same H (upd H p o) := fun b u e => by
  rw [upd_ne (ne_of_none e h)]
  exact e
theorem same_refl (H : Hp) : Same H H := fun _ _ h => h
theorem Same.sqT {K : PySem.W.Frag} {H H' : Hp} {a : Addr} {xs : List V} (e : Same H H') (h : SqT K H a xs) : SqT K H' a xs := by
  rcases h with (h | ⟨o, h⟩) | h
  · exact .inl (.inl (e _ _ h))
  · exact .inl (.inr ⟨o, e _ _ h⟩)
  · exact .inr h
/-- a new tuple, a new list comes out; what was there stands -/
def NewT (H : Hp) (xs : List V) (Q : VK) : Prop := ∀ (H' : Hp) (p : Addr), Same H H' → H p = Option.none → H' p = some (.tup xs) → Q (.ref p) H'
def NewL (H : Hp) (xs : List V) (Q : VK) : Prop := ∀ (H' : Hp) (p : Addr), Same H H' → H p = Option.none → H' p = some (.lst xs) → Q (.ref p) H'
/-- a value comes out; what was there stands -/
def Gives (H : Hp) (v : V) (Q : VK) : Prop := ∀ H' : Hp, Same H H' → Q v H'
/-! ### a def that may be called by its name -/
def Fn (P : Program) (w : World) (K : PySem.W.Frag) (mg : Str → Option Value) (base : Heap) (k : Nat) (x : Str) (ps : List Str) (sp : Sp) : Prop :=
  ∃ (f : Addr) (fd : FuncData), FnOk P w K mg base CX0 k f fd ps sp ∧ mg x = some (.ref f) ∧ PySem.W.keepIn K (.ref f) = true ∧ Binds K fd ps []
section
variable {X : Cx} {k : Nat} {ps : List Str} {sp : Sp} {x : Str} {p pos : Pos} {e : Expr} {es : List Expr} {t : TA}
theorem pe_fn (F : Fn X.prog X.w X.K X.mg X.base k x ps sp) (hr : Room k X.A) (hg : Gl X x) (ha : PA X (e :: es) t) (hdb : (x == ("__debug__" : Str)) = false := by decide)
    (he : starEach (e :: es) X.env = (false, eval e X.env) :: starEach es X.env := by rfl) (hpl : (backTo pos (starEach es X.env)).any (·.1) = false := by rfl) :
    PE X (.Call (.Name x p) (e :: es) [] pos) (tCall sp [] E0 t) := by
  obtain ⟨f, fd, F, hm, hk, hb⟩ := F
  exact pe_call F hr hg hm hk hb .nil pass0 ha hdb he hpl
theorem pe_fn0 (F : Fn X.prog X.w X.K X.mg X.base k x ps sp) (hr : Room k X.A) (hg : Gl X x) (hdb : (x == ("__debug__" : Str)) = false := by decide) :
    PE X (.Call (.Name x p) [] [] pos) (tCall sp [] E0 tNil) := by
  obtain ⟨f, fd, F, hm, hk, hb⟩ := F
  exact pe_call0 F hr hg hm hk hb .nil pass0 hdb
end
/-! ### a method that may be called -/
def Me (P : Program) (w : World) (K : PySem.W.Frag) (mg : Str → Option Value) (base : Heap) (C : Addr) (k : Nat) (m : Str) (ps : List Str) (sp : Sp) : Prop :=
  ∃ (f : Addr) (fd : FuncData), FnOk P w K mg base CX0 k f fd ps sp ∧ Meth K C m f ∧ Binds K fd ps []
section
variable {X : Cx} {C : Addr} {k : Nat} {ps : List Str} {sp : Sp} {m : Str} {apos pos : Pos} {o e : Expr} {es : List Expr} {ta : TE} {t : TA}
theorem pe_me {pl : Sem Bool} (he : PE X o ta) (c : Cls X.K C) (F : Me X.prog X.w X.K X.mg X.base C k m ps sp) (hr : Room k X.A) (ha : PA X (e :: es) t)
    (hst : starEach (e :: es) X.env = (false, eval e X.env) :: starEach es X.env := by rfl) (hpl : (backTo pos (starEach es X.env)).any (·.1) = false := by rfl)
    (ht : eval (.Call (.Attribute o m apos) (e :: es) [] pos) X.env = (do
      let ov ← eval o X.env
      standAt apos.atName
      let (f, first) ← holding [ov] (getMethod ov m pl)
      callWith pos f first (backTo pos (starEach (e :: es) X.env)) (backToKw pos (keywordEach [] X.env))) := by rfl) :
    PE X (.Call (.Attribute o m apos) (e :: es) [] pos) (tMeth C m sp [] E0 ta t) := by
  obtain ⟨f, fd, F, hm, hb⟩ := F
  exact pe_meth he c hm F hr hb .nil pass0 ha hst hpl ht
theorem pe_me0 {pl : Sem Bool} (he : PE X o ta) (c : Cls X.K C) (F : Me X.prog X.w X.K X.mg X.base C k m ps sp) (hr : Room k X.A)
    (ht : eval (.Call (.Attribute o m apos) [] [] pos) X.env = (do
      let ov ← eval o X.env
      standAt apos.atName
      let (f, first) ← holding [ov] (getMethod ov m pl)
      callWith pos f first (backTo pos (starEach [] X.env)) (backToKw pos (keywordEach [] X.env))) := by rfl) :
    PE X (.Call (.Attribute o m apos) [] [] pos) (tMeth C m sp [] E0 ta tNil) := by
  obtain ⟨f, fd, F, hm, hb⟩ := F
  exact pe_meth0 he c hm F hr hb .nil pass0 ht
end
/-! ### lists by place -/
theorem drop_at {α : Type} : ∀ {l : List α} {i : Nat} {x : α}, l[i]? = some x → l.drop i = x :: l.drop (i + 1)
  | [], i, x, h => by simp at h
  | a :: l, 0, x, h => by
    have e : a = x := Option.some.inj h
    subst e
    rfl
  | a :: l, i + 1, x, h => by
    show l.drop i = x :: l.drop (i + 1)
    exact drop_at (l := l) (i := i) (x := x) h
theorem take_at {α : Type} : ∀ {l : List α} {i : Nat} {x : α}, l[i]? = some x → l.take (i + 1) = l.take i ++ [x]
  | [], i, x, h => by simp at h
  | a :: l, 0, x, h => by
    have e : a = x := Option.some.inj h
    subst e
    rfl
  | a :: l, i + 1, x, h => by
    have ih := take_at (l := l) (i := i) (x := x) h
    show a :: l.take (i + 1) = a :: l.take i ++ [x]
    rw [ih]
    rfl
theorem map_at {α β : Type} {f : α → β} {l : List α} {i : Nat} {y : β} (h : (l.map f)[i]? = some y) : ∃ x, l[i]? = some x ∧ y = f x := by
  rw [List.getElem?_map] at h
  cases e : l[i]? with
  | none => rw [e] at h; cases h
  | some x => rw [e] at h; exact ⟨x, rfl, (Option.some.inj h).symm⟩
end WA
namespace WA
open PySem PySem.Spec PyProof.Rows L2
section
variable {X : Cx}
/-- a module's tuple -/
theorem pe_gtup {x : Str} {xs : List V} {pos : Pos} (hg : Gl X x) (h : ∃ a, X.mg x = some (Value.ref a) ∧ ∀ H, SqT X.K H a xs) (hd : (x == ("__debug__" : Str)) = false := by decide) :
    PE X (.Name x pos) (fun _ H Q => ∀ a, SqT X.K H a xs → Q (.ref a) H) := by
  obtain ⟨a, e, ha⟩ := h
  exact fun pins s σ H Q I hw => ld_glob I hg e ⟨.ref a, H, I, rfl, hw a (ha H)⟩ hd
end
/-- a class that may be made -/
def Mak (P : Program) (w : World) (K : PySem.W.Frag) (mg : Str → Option Value) (base : Heap) (C : Addr) (k : Nat) (x : Str) (ps : List Str) (sp : Sp) : Prop :=
  ∃ (f : Addr) (fd : FuncData), FnOk P w K mg base CX0 k f fd ps sp ∧ Mk K C f ∧ mg x = some (.ref C) ∧ Binds K fd ps []
theorem pe_mk0 {X : Cx} {C : Addr} {k : Nat} {ps : List Str} {sp : Sp} {x : Str} {p pos : Pos} (F : Mak X.prog X.w X.K X.mg X.base C k x ps sp) (hr : Room (k + 1) X.A) (hg : Gl X x) (hdb : (x == ("__debug__" : Str)) = false := by decide) :
    PE X (.Call (.Name x p) [] [] pos) (tMake C sp [] E0 tNil) := by
  obtain ⟨f, fd, F, M, hm, hb⟩ := F
  exact pe_make0 M F hr hg hm hb .nil pass0 hdb
theorem boot_len : bootBuiltins "len" = some (.builtin "len") := by decide +kernel
theorem boot_abs : bootBuiltins "abs" = some (.builtin "abs") := by decide +kernel
theorem boot_max : bootBuiltins "max" = some (.builtin "max") := by decide +kernel
theorem boot_min : bootBuiltins "min" = some (.builtin "min") := by decide +kernel
theorem boot_sum : bootBuiltins "sum" = some (.builtin "sum") := by decide +kernel
theorem boot_divmod : bootBuiltins "divmod" = some (.builtin "divmod") := by decide +kernel
theorem boot_list : bootBuiltins "list" = some (.type "list") := by decide +kernel
theorem boot_tuple : bootBuiltins "tuple" = some (.type "tuple") := by decide +kernel
theorem lk_hd {f : Str} {v : V} {r : List (Str × V)} : List.lookup f ((f, v) :: r) = some v := by
  have hb : (f == f) = true := beq_self_eq_true f
  simp only [List.lookup, hb]
theorem lk_tl {f g : Str} {v : V} {r : List (Str × V)} (h : f ≠ g) : List.lookup f ((g, v) :: r) = List.lookup f r := by
  have hb : (f == g) = false := beq_eq_false_iff_ne.mpr h
  simp only [List.lookup, hb]
theorem pt_nil {f : Str} {v : V} : putF f v [] = [(f, v)] := rfl
theorem pt_hd {f : Str} {v z : V} {r : List (Str × V)} : putF f z ((f, v) :: r) = (f, z) :: r := by
  show (if f = f then (f, z) :: r else _) = _
  rw [if_pos rfl]
theorem pt_tl {f g : Str} {v z : V} {r : List (Str × V)} (h : g ≠ f) : putF f z ((g, v) :: r) = (g, v) :: putF f z r := by
  show (if g = f then _ else (g, v) :: putF f z r) = _
  rw [if_neg h]
end WA
end
section
set_option Elab.async false
set_option linter.all false
set_option maxRecDepth 100000
set_option maxHeartbeats 2000000
namespace WA
open PySem PySem.Spec PyProof.Rows L2
open Mu55 (Pt onPaper)
def top (i : Nat) : Stmt := PySem.Challenge.pw_wheelarea_s01_answers.main.body.getD i (.Pass ⟨0, 0, 0, 0⟩)
abbrev s_end_of : Stmt := top 25
abbrev s_is_on_paper : Stmt := top 26
abbrev s_is_way : Stmt := top 27
abbrev s_is_loop : Stmt := top 28
abbrev s_upright_steps : Stmt := top 29
abbrev s_turning : Stmt := top 30
abbrev s_times_round : Stmt := top 31
abbrev s_corners_come_to : Stmt := top 32
abbrev s_straightened : Stmt := top 33
abbrev s_row_length : Stmt := top 34
abbrev s_loop_round : Stmt := top 35
abbrev s_Pointer___init__ : Stmt := inClass (top 36) 0
abbrev s_Pointer_begin : Stmt := inClass (top 36) 1
abbrev s_Pointer_walk : Stmt := inClass (top 36) 2
abbrev s_Pointer_go : Stmt := inClass (top 36) 3
abbrev s_Pointer_zero : Stmt := inClass (top 36) 4
abbrev s_Pointer_area : Stmt := inClass (top 36) 5
abbrev s_Pointer_round_square : Stmt := inClass (top 36) 6
abbrev s_Pointer_squares : Stmt := inClass (top 36) 7
abbrev s_Pointer_corners : Stmt := inClass (top 36) 8
abbrev s_Pointer_between : Stmt := inClass (top 36) 9
abbrev s_Pointer_straight : Stmt := inClass (top 36) 10
abbrev s_Pointer_shortest : Stmt := inClass (top 36) 11
abbrev s_Pointer_home : Stmt := inClass (top 36) 12
abbrev s_Pointer_look : Stmt := inClass (top 36) 13
abbrev s_Pointer_answer : Stmt := inClass (top 36) 14
abbrev s_split_calls : Stmt := top 37
abbrev s_answers : Stmt := top 38
structure Txt (K : PySem.W.Frag) (mg : Str → Option Value) (C : Addr) : Prop where
  g_EDGE : ∃ t, mg "EDGE" = some (.int (8) t)
  g_LONGEST_WAY : ∃ t, mg "LONGEST_WAY" = some (.int (40) t)
  g_STEP_RIGHT : ∃ t, mg "STEP_RIGHT" = some (.int (0) t)
  g_STEP_LEFT : ∃ t, mg "STEP_LEFT" = some (.int (1) t)
  g_STEP_UP : ∃ t, mg "STEP_UP" = some (.int (2) t)
  g_STEP_DOWN : ∃ t, mg "STEP_DOWN" = some (.int (3) t)
  g_BEGIN : ∃ t, mg "BEGIN" = some (.int (0) t)
  g_GO : ∃ t, mg "GO" = some (.int (1) t)
  g_ZERO : ∃ t, mg "ZERO" = some (.int (2) t)
  g_AREA : ∃ t, mg "AREA" = some (.int (3) t)
  g_ROUND : ∃ t, mg "ROUND" = some (.int (4) t)
  g_SQUARES : ∃ t, mg "SQUARES" = some (.int (5) t)
  g_CORNERS : ∃ t, mg "CORNERS" = some (.int (6) t)
  g_BETWEEN : ∃ t, mg "BETWEEN" = some (.int (7) t)
  g_STRAIGHT : ∃ t, mg "STRAIGHT" = some (.int (8) t)
  g_SHORTEST : ∃ t, mg "SHORTEST" = some (.int (9) t)
  g_HOME : ∃ t, mg "HOME" = some (.int (10) t)
  g_NOT_LET : ∃ t, mg "NOT_LET" = some (.int (-1) t)
  g_NO_SUCH_SQUARE : ∃ t, mg "NO_SUCH_SQUARE" = some (.int (-2) t)
  g_NO_LOOP : ∃ t, mg "NO_LOOP" = some (.int (-6) t)
  g_NO_PAPER : ∃ t, mg "NO_PAPER" = some (.int (-9) t)
  g_BACK_OF : ∃ a, mg "BACK_OF" = some (.ref a) ∧ ∀ H, SqT K H a [.int (1), .int (0), .int (3), .int (2)]
  g_NUMBERS_OF : ∃ a, mg "NUMBERS_OF" = some (.ref a) ∧ ∀ H, SqT K H a [.int (2), .int (0), .int (0), .int (0), .int (2), .int (0), .int (0), .int (0), .int (0), .int (1), .int (0), .int (0)]
  g_WAYS_OF : ∃ a, mg "WAYS_OF" = some (.ref a) ∧ ∀ H, SqT K H a [.int (0), .int (1), .int (0), .int (1), .int (1), .int (1), .int (1), .int (2), .int (1), .int (0), .int (0), .int (0)]
  mg_Pointer : mg "Pointer" = some (.ref C)
  cl : Cls K C
  n_has_paper : NoAttr K C "has_paper"
  n_right : NoAttr K C "right"
  n_up : NoAttr K C "up"
  n_wheel : NoAttr K C "wheel"
  n_steps_made : NoAttr K C "steps_made"
  b_len : mg "len" = none
  b_range : mg "range" = none
  b_abs : mg "abs" = none
  b_max : mg "max" = none
def pf (has_paper : Bool) (right : Int) (up : Int) (wheel : Int) (steps_made : Int) : List (Str × V) := [(("has_paper" : Str), V.bl has_paper), (("right" : Str), V.int right), (("up" : Str), V.int up), (("wheel" : Str), V.int wheel), (("steps_made" : Str), V.int steps_made)]
theorem pf_has_paper (has_paper : Bool) (right : Int) (up : Int) (wheel : Int) (steps_made : Int) : (pf has_paper right up wheel steps_made).lookup ("has_paper" : Str) = some (V.bl has_paper) := by
  unfold pf
  rw [lk_hd]
theorem pf_put_has_paper (has_paper : Bool) (right : Int) (up : Int) (wheel : Int) (steps_made : Int) (z : Bool) : putF "has_paper" (V.bl z) (pf has_paper right up wheel steps_made) = pf z right up wheel steps_made := by
  unfold pf
  rw [pt_hd]
theorem pf_mk_has_paper (has_paper : Bool) (right : Int) (up : Int) (wheel : Int) (steps_made : Int) : putF "has_paper" (V.bl has_paper) ([] : List (Str × V)) = [(("has_paper" : Str), V.bl has_paper)] := by
  rw [pt_nil]
  all_goals rfl
theorem pf_right (has_paper : Bool) (right : Int) (up : Int) (wheel : Int) (steps_made : Int) : (pf has_paper right up wheel steps_made).lookup ("right" : Str) = some (V.int right) := by
  unfold pf
  rw [lk_tl (by decide +kernel), lk_hd]
theorem pf_put_right (has_paper : Bool) (right : Int) (up : Int) (wheel : Int) (steps_made : Int) (z : Int) : putF "right" (V.int z) (pf has_paper right up wheel steps_made) = pf has_paper z up wheel steps_made := by
  unfold pf
  rw [pt_tl (by decide +kernel), pt_hd]
theorem pf_mk_right (has_paper : Bool) (right : Int) (up : Int) (wheel : Int) (steps_made : Int) : putF "right" (V.int right) ([(("has_paper" : Str), V.bl has_paper)] : List (Str × V)) = [(("has_paper" : Str), V.bl has_paper), (("right" : Str), V.int right)] := by
  rw [pt_tl (by decide +kernel), pt_nil]
  all_goals rfl
theorem pf_up (has_paper : Bool) (right : Int) (up : Int) (wheel : Int) (steps_made : Int) : (pf has_paper right up wheel steps_made).lookup ("up" : Str) = some (V.int up) := by
  unfold pf
  rw [lk_tl (by decide +kernel), lk_tl (by decide +kernel), lk_hd]
theorem pf_put_up (has_paper : Bool) (right : Int) (up : Int) (wheel : Int) (steps_made : Int) (z : Int) : putF "up" (V.int z) (pf has_paper right up wheel steps_made) = pf has_paper right z wheel steps_made := by
  unfold pf
  rw [pt_tl (by decide +kernel), pt_tl (by decide +kernel), pt_hd]
theorem pf_mk_up (has_paper : Bool) (right : Int) (up : Int) (wheel : Int) (steps_made : Int) : putF "up" (V.int up) ([(("has_paper" : Str), V.bl has_paper), (("right" : Str), V.int right)] : List (Str × V)) = [(("has_paper" : Str), V.bl has_paper), (("right" : Str), V.int right), (("up" : Str), V.int up)] := by
  rw [pt_tl (by decide +kernel), pt_tl (by decide +kernel), pt_nil]
  all_goals rfl
theorem pf_wheel (has_paper : Bool) (right : Int) (up : Int) (wheel : Int) (steps_made : Int) : (pf has_paper right up wheel steps_made).lookup ("wheel" : Str) = some (V.int wheel) := by
  unfold pf
  rw [lk_tl (by decide +kernel), lk_tl (by decide +kernel), lk_tl (by decide +kernel), lk_hd]
theorem pf_put_wheel (has_paper : Bool) (right : Int) (up : Int) (wheel : Int) (steps_made : Int) (z : Int) : putF "wheel" (V.int z) (pf has_paper right up wheel steps_made) = pf has_paper right up z steps_made := by
  unfold pf
  rw [pt_tl (by decide +kernel), pt_tl (by decide +kernel), pt_tl (by decide +kernel), pt_hd]
theorem pf_mk_wheel (has_paper : Bool) (right : Int) (up : Int) (wheel : Int) (steps_made : Int) : putF "wheel" (V.int wheel) ([(("has_paper" : Str), V.bl has_paper), (("right" : Str), V.int right), (("up" : Str), V.int up)] : List (Str × V)) = [(("has_paper" : Str), V.bl has_paper), (("right" : Str), V.int right), (("up" : Str), V.int up), (("wheel" : Str), V.int wheel)] := by
  rw [pt_tl (by decide +kernel), pt_tl (by decide +kernel), pt_tl (by decide +kernel), pt_nil]
  all_goals rfl
theorem pf_steps_made (has_paper : Bool) (right : Int) (up : Int) (wheel : Int) (steps_made : Int) : (pf has_paper right up wheel steps_made).lookup ("steps_made" : Str) = some (V.int steps_made) := by
  unfold pf
  rw [lk_tl (by decide +kernel), lk_tl (by decide +kernel), lk_tl (by decide +kernel), lk_tl (by decide +kernel), lk_hd]
theorem pf_put_steps_made (has_paper : Bool) (right : Int) (up : Int) (wheel : Int) (steps_made : Int) (z : Int) : putF "steps_made" (V.int z) (pf has_paper right up wheel steps_made) = pf has_paper right up wheel z := by
  unfold pf
  rw [pt_tl (by decide +kernel), pt_tl (by decide +kernel), pt_tl (by decide +kernel), pt_tl (by decide +kernel), pt_hd]
theorem pf_mk_steps_made (has_paper : Bool) (right : Int) (up : Int) (wheel : Int) (steps_made : Int) : putF "steps_made" (V.int steps_made) ([(("has_paper" : Str), V.bl has_paper), (("right" : Str), V.int right), (("up" : Str), V.int up), (("wheel" : Str), V.int wheel)] : List (Str × V)) = [(("has_paper" : Str), V.bl has_paper), (("right" : Str), V.int right), (("up" : Str), V.int up), (("wheel" : Str), V.int wheel), (("steps_made" : Str), V.int steps_made)] := by
  rw [pt_tl (by decide +kernel), pt_tl (by decide +kernel), pt_tl (by decide +kernel), pt_tl (by decide +kernel), pt_nil]
  all_goals rfl
theorem pf_no___init__ (has_paper : Bool) (right : Int) (up : Int) (wheel : Int) (steps_made : Int) : (pf has_paper right up wheel steps_made).lookup ("__init__" : Str) = none := by
  unfold pf
  rw [lk_tl (by decide +kernel), lk_tl (by decide +kernel), lk_tl (by decide +kernel), lk_tl (by decide +kernel), lk_tl (by decide +kernel)]
  all_goals rfl
theorem pf_no_begin (has_paper : Bool) (right : Int) (up : Int) (wheel : Int) (steps_made : Int) : (pf has_paper right up wheel steps_made).lookup ("begin" : Str) = none := by
  unfold pf
  rw [lk_tl (by decide +kernel), lk_tl (by decide +kernel), lk_tl (by decide +kernel), lk_tl (by decide +kernel), lk_tl (by decide +kernel)]
  all_goals rfl
theorem pf_no_walk (has_paper : Bool) (right : Int) (up : Int) (wheel : Int) (steps_made : Int) : (pf has_paper right up wheel steps_made).lookup ("walk" : Str) = none := by
  unfold pf
  rw [lk_tl (by decide +kernel), lk_tl (by decide +kernel), lk_tl (by decide +kernel), lk_tl (by decide +kernel), lk_tl (by decide +kernel)]
  all_goals rfl
theorem pf_no_go (has_paper : Bool) (right : Int) (up : Int) (wheel : Int) (steps_made : Int) : (pf has_paper right up wheel steps_made).lookup ("go" : Str) = none := by
  unfold pf
  rw [lk_tl (by decide +kernel), lk_tl (by decide +kernel), lk_tl (by decide +kernel), lk_tl (by decide +kernel), lk_tl (by decide +kernel)]
  all_goals rfl
theorem pf_no_zero (has_paper : Bool) (right : Int) (up : Int) (wheel : Int) (steps_made : Int) : (pf has_paper right up wheel steps_made).lookup ("zero" : Str) = none := by
  unfold pf
  rw [lk_tl (by decide +kernel), lk_tl (by decide +kernel), lk_tl (by decide +kernel), lk_tl (by decide +kernel), lk_tl (by decide +kernel)]
  all_goals rfl
theorem pf_no_area (has_paper : Bool) (right : Int) (up : Int) (wheel : Int) (steps_made : Int) : (pf has_paper right up wheel steps_made).lookup ("area" : Str) = none := by
  unfold pf
  rw [lk_tl (by decide +kernel), lk_tl (by decide +kernel), lk_tl (by decide +kernel), lk_tl (by decide +kernel), lk_tl (by decide +kernel)]
  all_goals rfl
theorem pf_no_round_square (has_paper : Bool) (right : Int) (up : Int) (wheel : Int) (steps_made : Int) : (pf has_paper right up wheel steps_made).lookup ("round_square" : Str) = none := by
  unfold pf
  rw [lk_tl (by decide +kernel), lk_tl (by decide +kernel), lk_tl (by decide +kernel), lk_tl (by decide +kernel), lk_tl (by decide +kernel)]
  all_goals rfl
theorem pf_no_squares (has_paper : Bool) (right : Int) (up : Int) (wheel : Int) (steps_made : Int) : (pf has_paper right up wheel steps_made).lookup ("squares" : Str) = none := by
  unfold pf
  rw [lk_tl (by decide +kernel), lk_tl (by decide +kernel), lk_tl (by decide +kernel), lk_tl (by decide +kernel), lk_tl (by decide +kernel)]
  all_goals rfl
theorem pf_no_corners (has_paper : Bool) (right : Int) (up : Int) (wheel : Int) (steps_made : Int) : (pf has_paper right up wheel steps_made).lookup ("corners" : Str) = none := by
  unfold pf
  rw [lk_tl (by decide +kernel), lk_tl (by decide +kernel), lk_tl (by decide +kernel), lk_tl (by decide +kernel), lk_tl (by decide +kernel)]
  all_goals rfl
theorem pf_no_between (has_paper : Bool) (right : Int) (up : Int) (wheel : Int) (steps_made : Int) : (pf has_paper right up wheel steps_made).lookup ("between" : Str) = none := by
  unfold pf
  rw [lk_tl (by decide +kernel), lk_tl (by decide +kernel), lk_tl (by decide +kernel), lk_tl (by decide +kernel), lk_tl (by decide +kernel)]
  all_goals rfl
theorem pf_no_straight (has_paper : Bool) (right : Int) (up : Int) (wheel : Int) (steps_made : Int) : (pf has_paper right up wheel steps_made).lookup ("straight" : Str) = none := by
  unfold pf
  rw [lk_tl (by decide +kernel), lk_tl (by decide +kernel), lk_tl (by decide +kernel), lk_tl (by decide +kernel), lk_tl (by decide +kernel)]
  all_goals rfl
theorem pf_no_shortest (has_paper : Bool) (right : Int) (up : Int) (wheel : Int) (steps_made : Int) : (pf has_paper right up wheel steps_made).lookup ("shortest" : Str) = none := by
  unfold pf
  rw [lk_tl (by decide +kernel), lk_tl (by decide +kernel), lk_tl (by decide +kernel), lk_tl (by decide +kernel), lk_tl (by decide +kernel)]
  all_goals rfl
theorem pf_no_home (has_paper : Bool) (right : Int) (up : Int) (wheel : Int) (steps_made : Int) : (pf has_paper right up wheel steps_made).lookup ("home" : Str) = none := by
  unfold pf
  rw [lk_tl (by decide +kernel), lk_tl (by decide +kernel), lk_tl (by decide +kernel), lk_tl (by decide +kernel), lk_tl (by decide +kernel)]
  all_goals rfl
theorem pf_no_look (has_paper : Bool) (right : Int) (up : Int) (wheel : Int) (steps_made : Int) : (pf has_paper right up wheel steps_made).lookup ("look" : Str) = none := by
  unfold pf
  rw [lk_tl (by decide +kernel), lk_tl (by decide +kernel), lk_tl (by decide +kernel), lk_tl (by decide +kernel), lk_tl (by decide +kernel)]
  all_goals rfl
theorem pf_no_answer (has_paper : Bool) (right : Int) (up : Int) (wheel : Int) (steps_made : Int) : (pf has_paper right up wheel steps_made).lookup ("answer" : Str) = none := by
  unfold pf
  rw [lk_tl (by decide +kernel), lk_tl (by decide +kernel), lk_tl (by decide +kernel), lk_tl (by decide +kernel), lk_tl (by decide +kernel)]
  all_goals rfl
end WA
end
section
set_option Elab.async false
set_option linter.all false
set_option maxRecDepth 100000
set_option maxHeartbeats 2000000
namespace WA
open PySem PySem.Spec PyProof.Rows L2
open Mu55 (Pt onPaper)
theorem on_iff {x y : Int} : onPaper ⟨x, y⟩ = true ↔ (0 ≤ x ∧ x ≤ 8 ∧ 0 ≤ y ∧ y ≤ 8) := by
  unfold onPaper
  rw [Bool.and_eq_true, Bool.and_eq_true, Bool.and_eq_true, decide_eq_true_iff, decide_eq_true_iff, decide_eq_true_iff, decide_eq_true_iff]
  exact Iff.rfl
theorem on_f {x y : Int} (h : ¬ (0 ≤ x ∧ x ≤ 8 ∧ 0 ≤ y ∧ y ≤ 8)) : onPaper ⟨x, y⟩ = false := by
  cases e : onPaper ⟨x, y⟩ with
  | false => rfl
  | true => exact absurd (on_iff.mp e) h
section
variable {P : Program} {w : World} {K : PySem.W.Frag} {mg : Str → Option Value} {base : Heap} {C : Addr}
/-! ### end_of -/
def spEnd (K : PySem.W.Frag) : Sp := fun vs H Q _ => ∃ (x y : Int) (a : Addr) (ns : List Int), vs = [.int x, .int y, .ref a] ∧ SqL K H a (ns.map V.int) ∧ NewT H [.int (endX x ns), .int (endY y ns)] Q
theorem sc_end_of : FnScope ["right", "up", "way"] ["right", "up", "way"] (defScope s_end_of) := ⟨rfl, rfl, rfl, by decide +kernel, rfl, by decide +kernel, by decide +kernel⟩
theorem ok_end {f : Addr} {fd : FuncData} (F : Fun K "end_of" "end_of" s_end_of f fd) (T : Txt K mg C) : FnOk P w K mg base CX0 1 f fd ["right", "up", "way"] (spEnd K) := by
  refine F.ok sc_end_of (fun vs H Q E h => ?_) (fun cdv A outer s H vs Q E hr h => ?_)
  · obtain ⟨x, y, a, ns, rfl, _⟩ := h
    rfl
  · obtain ⟨x, y, a, ns, rfl, hS, k⟩ := h
    refine ⟨_, (pss_one (ps_ret (pe_tup (pa_cons (pe_op op_sub (pe_op op_add (pv 0) (pe_bm PySem.F.plainAttrs_list PySem.F.slot_list_count PySem.F.type_list_count mt_lcount (pv 2) (pa_cons (pe_gi rfl T.g_STEP_RIGHT) pa_nil))) (pe_bm PySem.F.plainAttrs_list PySem.F.slot_list_count PySem.F.type_list_count mt_lcount (pv 2) (pa_cons (pe_gi rfl T.g_STEP_LEFT) pa_nil))) (pa_cons (pe_op op_sub (pe_op op_add (pv 1) (pe_bm PySem.F.plainAttrs_list PySem.F.slot_list_count PySem.F.type_list_count mt_lcount (pv 2) (pa_cons (pe_gi rfl T.g_STEP_UP) pa_nil))) (pe_bm PySem.F.plainAttrs_list PySem.F.slot_list_count PySem.F.type_list_count mt_lcount (pv 2) (pa_cons (pe_gi rfl T.g_STEP_DOWN) pa_nil))) pa_nil))))), ?_⟩
    refine ⟨_, rfl, _, rfl, .inl ⟨rfl, _, hS⟩, a, ns, _, rfl, rfl, hS, _, _, rfl, rfl, ?_⟩
    refine ⟨_, rfl, .inl ⟨rfl, _, hS⟩, a, ns, _, rfl, rfl, hS, _, _, rfl, rfl, ?_⟩
    refine ⟨_, rfl, _, rfl, .inl ⟨rfl, _, hS⟩, a, ns, _, rfl, rfl, hS, _, _, rfl, rfl, ?_⟩
    refine ⟨_, rfl, .inl ⟨rfl, _, hS⟩, a, ns, _, rfl, rfl, hS, _, _, rfl, rfl, ?_⟩
    exact ⟨(by show 2 ≤ sizeLine; decide), fun p hp => k _ p (same_new hp) hp upd_same⟩
/-! ### is_on_paper -/
def spOn (K : PySem.W.Frag) : Sp := fun vs H Q _ => ∃ (x y : Int) (a : Addr), vs = [.ref a] ∧ SqT K H a [.int x, .int y] ∧ Q (.bl (onPaper ⟨x, y⟩)) H
theorem sc_is_on_paper : FnScope ["corner"] ["corner"] (defScope s_is_on_paper) := ⟨rfl, rfl, rfl, by decide +kernel, rfl, by decide +kernel, by decide +kernel⟩
theorem ok_on {f : Addr} {fd : FuncData} (F : Fun K "is_on_paper" "is_on_paper" s_is_on_paper f fd) (T : Txt K mg C) : FnOk P w K mg base CX0 1 f fd ["corner"] (spOn K) := by
  refine F.ok sc_is_on_paper (fun vs H Q E h => ?_) (fun cdv A outer s H vs Q E hr h => ?_)
  · obtain ⟨x, y, a, rfl, _⟩ := h
    rfl
  · obtain ⟨x, y, a, rfl, hS, k⟩ := h
    refine ⟨_, (pss_one (ps_ret (pe_and (pe_chain op_le op_le (pe_int) (pe_ix ix_tup (pv 0) (pe_int) (fun _ _ => rfl)) (pe_gi rfl T.g_EDGE)) (pe_one (pe_chain op_le op_le (pe_int) (pe_ix ix_tup (pv 0) (pe_int) (fun _ _ => rfl)) (pe_gi rfl T.g_EDGE)))))), ?_⟩
    refine ⟨_, rfl, a, _, _, _, rfl, rfl, hS, rfl, _, _, rfl, rfl, _, rfl, ite2 (fun h1 => ?_) (fun h1 => ?_)⟩
    · refine ⟨_, _, rfl, rfl, _, rfl, ite2 (fun h2 => ?_) (fun h2 => ?_)⟩
      · refine ⟨_, rfl, a, _, _, _, rfl, rfl, hS, rfl, _, _, rfl, rfl, _, rfl, ite2 (fun h3 => ?_) (fun h3 => ?_)⟩
        · refine ⟨_, _, rfl, rfl, ?_⟩
          have e : onPaper ⟨x, y⟩ = decide (y ≤ 8) := by
            unfold onPaper
            rw [show decide (0 ≤ (⟨x, y⟩ : Pt).x) = true from h1, show decide ((⟨x, y⟩ : Pt).x ≤ ((Mu55.WIDE : Nat) : Int)) = true from h2, show decide (0 ≤ (⟨x, y⟩ : Pt).y) = true from h3]
            rfl
          rw [e] at k
          exact k
        · rw [on_f (fun z => h3 (decide_eq_true z.2.2.1))] at k
          exact k
      · rw [on_f (fun z => h2 (decide_eq_true z.2.1))] at k
        exact k
    · rw [on_f (fun z => h1 (decide_eq_true z.1))] at k
      exact ⟨_, rfl, iteF k⟩
/-! ### is_way -/
def spWay (K : PySem.W.Frag) : Sp := fun vs H Q _ => ∃ (x y : Int) (a : Addr) (ns : List Int), vs = [.int x, .int y, .ref a] ∧ SqL K H a (ns.map V.int) ∧ NonNeg ns ∧ Gives H (.bl (decide (ns.length ≤ 40) && good ⟨x, y⟩ (nats ns))) Q
theorem sc_is_way : FnScope ["right", "up", "way", "corner", "step"] ["right", "up", "way"] (defScope s_is_way) := ⟨rfl, rfl, rfl, by decide +kernel, rfl, by decide +kernel, by decide +kernel⟩
theorem ok_way {f : Addr} {fd : FuncData} (F : Fun K "is_way" "is_way" s_is_way f fd) (T : Txt K mg C) (G_end_of : Fn P w K mg base 1 "end_of" ["right", "up", "way"] (spEnd K)) (G_is_on_paper : Fn P w K mg base 1 "is_on_paper" ["corner"] (spOn K)) :
    FnOk P w K mg base CX0 2 f fd ["right", "up", "way"] (spWay K) := by
  refine F.ok sc_is_way (fun vs H Q E h => ?_) (fun cdv A outer s H vs Q E hr h => ?_)
  · obtain ⟨x, y, a, ns, rfl, _⟩ := h
    rfl
  · obtain ⟨x, y, a, ns, rfl, hS, hn, k⟩ := h
    refine ⟨_, (pss_cons (ps_if (pt_cmpR op_gt (pe_callB call_len_seq (by rfl) T.b_len boot_len (pa_cons (pv 2) pa_nil)) (pe_gi rfl T.g_LONGEST_WAY) (nomark _)) 
        (pss_one (ps_ret (pe_bl))) pss_nil)
      (pss_cons (ps_set (i := 3) sc_is_way.nd rfl (Or.inl rfl) (pe_tup (pa_cons (pv 0) (pa_cons (pv 1) pa_nil))))
      (pss_cons (ps_for PassesOwn.never rfl (pi_list (pv 2)) (pg_name (i := 4) sc_is_way.nd rfl (Or.inl rfl)) 
        (pss_cons (ps_if (pt_cmpR op_gt (pv 4) (pe_gi rfl T.g_STEP_DOWN) (nomark _)) 
          (pss_one (ps_ret (pe_bl))) pss_nil)
        (pss_cons (ps_set (i := 3) sc_is_way.nd rfl (Or.inl rfl) (pe_fn G_end_of (hr.mono (by decide)) rfl (pa_cons (pe_ix ix_tup (pv 3) (pe_int) (fun _ _ => rfl)) (pa_cons (pe_ix ix_tup (pv 3) (pe_int) (fun _ _ => rfl)) (pa_cons (pe_lst (pa_cons (pv 4) pa_nil)) pa_nil)))))
        (pss_one (ps_if (pt_not (pt_val (pe_fn G_is_on_paper (hr.mono (by decide)) rfl (pa_cons (pv 3) pa_nil)))) 
          (pss_one (ps_ret (pe_bl))) pss_nil)))))
      (pss_one (ps_ret (pe_bl)))))), ?_⟩
    refine ⟨_, rfl, a, _, rfl, .inl hS, _, _, rfl, rfl, _, rfl, ite2 (fun h1 => ?_) (fun h1 => ?_)⟩
    · have h1 : 40 < ((ns.map V.int).length : Int) := of_decide_eq_true h1
      rw [List.length_map] at h1
      have e : (decide (ns.length ≤ 40) && good ⟨x, y⟩ (nats ns)) = false := by
        rw [decide_eq_false (by omega), Bool.false_and]
      rw [e] at k
      exact k H (same_refl H)
    · have h1 : ns.length ≤ 40 := by
        have h1 : ¬ 40 < ((ns.map V.int).length : Int) := fun z => h1 (decide_eq_true z)
        rw [List.length_map] at h1
        omega
      rw [decide_eq_true h1, Bool.true_and] at k
      refine ⟨_, rfl, _, rfl, (by show 2 ≤ sizeLine; decide), fun c hc => ?_⟩
      refine ⟨_, rfl, a, rfl, ⟨_, (same_new hc).seq hS⟩, for_list (K := K) (a := a) (xs := ns.map V.int)
        (fun i σ H' => ∃ (v : Option V) (c' : Addr) (p : Pt), σ = [some (.int x), some (.int y), some (.ref a), some (.ref c'), v] ∧ Same H H' ∧ H' c' = some (.tup [.int p.x, .int p.y]) ∧ good ⟨x, y⟩ (nats ns) = good p (nats (ns.drop i)))
        ⟨none, c, ⟨x, y⟩, rfl, same_new hc, upd_same, rfl⟩ (fun i σ H' _ ⟨_, _, _, _, s5, _⟩ => s5.seq hS) ?_ ?_⟩
      · rintro i yv σ H' hi ⟨v, c', p, rfl, s5, hc', hg⟩
        obtain ⟨z, hz, rfl⟩ := map_at hi
        have hz0 : 0 ≤ z := hn z (List.mem_of_getElem? hz)
        rw [drop_at hz, nats_cons] at hg
        refine ⟨_, rfl, _, _, rfl, rfl, _, rfl, ite2 (fun h2 => ?_) (fun h2 => ?_)⟩
        · have h2 : 3 < z := of_decide_eq_true h2
          have e : good p (z.toNat :: nats (ns.drop (i + 1))) = false := by
            unfold good
            rw [decide_eq_false (by omega), Bool.false_and]
          rw [hg, e] at k
          exact k _ s5
        · have h2 : z < 4 := by
            have h2 : ¬ 3 < z := fun q => h2 (decide_eq_true q)
            omega
          have e : good p (z.toNat :: nats (ns.drop (i + 1))) = (onPaper (Mu55.next p z.toNat) && good (Mu55.next p z.toNat) (nats (ns.drop (i + 1)))) := by
            rw [good, decide_eq_true (by omega), Bool.true_and]
          rw [e, next_end p hz0 h2] at hg
          refine ⟨_, rfl, c', _, _, _, rfl, rfl, SqT.of hc', rfl, ?_⟩
          refine ⟨_, rfl, c', _, _, _, rfl, rfl, SqT.of hc', rfl, ?_⟩
          refine ⟨_, rfl, (by show 1 ≤ sizeLine; decide), fun l hl => ?_⟩
          refine ⟨p.x, p.y, l, [z], rfl, SqL.of upd_same, fun H2 c2 s6 hn2 hc2 => ?_⟩
          have s7 : Same H H2 := (s5.trans (same_new hl)).trans s6
          refine ⟨_, rfl, _, _, c2, rfl, SqT.of hc2, _, rfl, ite2 (fun h3 => ?_) (fun h3 => ?_)⟩
          · have h3 : onPaper ⟨endX p.x [z], endY p.y [z]⟩ = false := by simpa using h3
            rw [h3, Bool.false_and] at hg
            rw [hg] at k
            exact k _ s7
          · have h3 : onPaper ⟨endX p.x [z], endY p.y [z]⟩ = true := by simpa using h3
            rw [h3, Bool.true_and] at hg
            exact ⟨_, c2, ⟨_, _⟩, rfl, s7, hc2, hg⟩
      · rintro σ H' ⟨v, c', p, rfl, s5, hc', hg⟩
        rw [List.length_map, List.drop_length] at hg
        rw [hg] at k
        exact k _ s5
/-! ### is_loop -/
def spLoop (K : PySem.W.Frag) : Sp := fun vs H Q _ => ∃ (x y : Int) (a : Addr) (ns : List Int), vs = [.int x, .int y, .ref a] ∧ SqL K H a (ns.map V.int) ∧ Gives H (.bl (decide (endX x ns = x ∧ endY y ns = y))) Q
theorem sc_is_loop : FnScope ["right", "up", "way"] ["right", "up", "way"] (defScope s_is_loop) := ⟨rfl, rfl, rfl, by decide +kernel, rfl, by decide +kernel, by decide +kernel⟩
theorem eqv_pair (a b c d : Int) : PyData.eqv (.tuple [.int a, .int b]) (.tuple [.int c, .int d]) = decide (a = c ∧ b = d) := by
  simp only [PyData.eqv, PyData.eqvAll, Bool.and_true, Bool.decide_and, Bool.beq_eq_decide_eq]
theorem ok_loop {f : Addr} {fd : FuncData} (F : Fun K "is_loop" "is_loop" s_is_loop f fd) (T : Txt K mg C) (G_end_of : Fn P w K mg base 1 "end_of" ["right", "up", "way"] (spEnd K)) :
    FnOk P w K mg base CX0 2 f fd ["right", "up", "way"] (spLoop K) := by
  refine F.ok sc_is_loop (fun vs H Q E h => ?_) (fun cdv A outer s H vs Q E hr h => ?_)
  · obtain ⟨x, y, a, ns, rfl, _⟩ := h
    rfl
  · obtain ⟨x, y, a, ns, rfl, hS, k⟩ := h
    refine ⟨_, (pss_one (ps_ret (pe_cmpR (op_eqD hr.units) (pe_fn G_end_of (hr.mono (by decide)) rfl (pa_cons (pv 0) (pa_cons (pv 1) (pa_cons (pv 2) pa_nil)))) (pe_tup (pa_cons (pv 0) (pa_cons (pv 1) pa_nil))) (nomark _)))), ?_⟩
    refine ⟨_, rfl, _, rfl, _, rfl, x, y, a, ns, rfl, hS, fun H2 c2 s2 hn2 hc2 => ?_⟩
    refine ⟨_, rfl, _, rfl, (by show 2 ≤ sizeLine; decide), fun c hc => ?_⟩
    have s3 := same_new (o := .tup [.int x, .int y]) hc
    refine ⟨.tuple [.int (endX x ns), .int (endY y ns)], .tuple [.int x, .int y], .tup (SqT.of (s3 _ _ hc2)) (.cons (.int _) (.cons (.int _) .nil)), .tup (SqT.of upd_same) (.cons (.int _) (.cons (.int _) .nil)), rfl, rfl, ?_⟩
    rw [eqv_pair]
    exact k _ (s2.trans s3)
end
end WA
end
section
set_option Elab.async false
set_option linter.all false
set_option maxRecDepth 100000
set_option maxHeartbeats 2000000
namespace WA
open PySem PySem.Spec PyProof.Rows L2
open Mu55 (Pt onPaper)
/-- rows of three whole numbers as tuples -/
def RowAt (H : Hp) (a : Addr) (r : Int × Int × Int) : Prop := H a = some (.tup [.int r.1, .int r.2.1, .int r.2.2])
def Rows3 (H : Hp) (as : List Addr) (rs : List (Int × Int × Int)) : Prop := Paired (RowAt H) as rs
theorem Rows3.same {H H' : Hp} (s : Same H H') {as : List Addr} {rs : List (Int × Int × Int)} (h : Rows3 H as rs) : Rows3 H' as rs := Paired.mapP h fun _ _ e => s _ _ e
theorem Rows3.snoc {H : Hp} : ∀ {as : List Addr} {rs : List (Int × Int × Int)} {a : Addr} {r : Int × Int × Int}, Rows3 H as rs → RowAt H a r → Rows3 H (as ++ [a]) (rs ++ [r])
  | _, _, _, _, .nil, h => .cons h .nil
  | _, _, _, _, .cons q t, h => .cons q (Rows3.snoc t h)
theorem Rows3.at {H : Hp} {as : List Addr} {rs : List (Int × Int × Int)} (h : Rows3 H as rs) {i : Nat} {a : Addr} (e : as[i]? = some a) : ∃ r, rs[i]? = some r ∧ RowAt H a r := paired_get h e
/-- a list of such rows -/
def Rows3At (K : PySem.W.Frag) (H : Hp) (p : Addr) (rs : List (Int × Int × Int)) : Prop := ∃ as : List Addr, SqL K H p (as.map V.ref) ∧ Rows3 H as rs
theorem Rows3At.same {K : PySem.W.Frag} {H H' : Hp} (s : Same H H') {p : Addr} {rs : List (Int × Int × Int)} (h : Rows3At K H p rs) : Rows3At K H' p rs := by
  obtain ⟨as, h1, h2⟩ := h
  exact ⟨as, s.seq h1, h2.same s⟩
section
variable {P : Program} {w : World} {K : PySem.W.Frag} {mg : Str → Option Value} {base : Heap} {C : Addr}
/-! ### upright_steps -/
def spUpr (K : PySem.W.Frag) : Sp := fun vs H Q _ => ∃ (x y : Int) (a : Addr) (ns : List Int), vs = [.int x, .int y, .ref a] ∧ SqL K H a (ns.map V.int) ∧ ns.length ≤ 1000 ∧
  ∀ (H' : Hp) (p : Addr), Same H H' → H p = Option.none → Rows3At K H' p (upr x y ns) → Q (.ref p) H'
theorem sc_upright_steps : FnScope ["right", "up", "way", "found", "step"] ["right", "up", "way"] (defScope s_upright_steps) := ⟨rfl, rfl, rfl, by decide +kernel, rfl, by decide +kernel, by decide +kernel⟩
theorem ok_upr {f : Addr} {fd : FuncData} (F : Fun K "upright_steps" "upright_steps" s_upright_steps f fd) (T : Txt K mg C) :
    FnOk P w K mg base CX0 1 f fd ["right", "up", "way"] (spUpr K) := by
  refine F.ok sc_upright_steps (fun vs H Q E h => ?_) (fun cdv A outer s H vs Q E hr h => ?_)
  · obtain ⟨x, y, a, ns, rfl, _⟩ := h
    rfl
  · obtain ⟨x, y, a, ns, rfl, hS, hlen, k⟩ := h
    refine ⟨_, (pss_cons (ps_set (i := 3) sc_upright_steps.nd rfl (Or.inl rfl) (pe_lst pa_nil))
      (pss_cons (ps_for PassesOwn.never rfl (pi_list (pv 2)) (pg_name (i := 4) sc_upright_steps.nd rfl (Or.inl rfl)) 
        (pss_one (ps_if (pt_cmpR op_eq (pv 4) (pe_gi rfl T.g_STEP_RIGHT) (nomark _)) 
          (pss_one (ps_aug (i := 0) sc_upright_steps.nd rfl (Or.inl rfl) (pe_int) ip_add)) 
          (pss_one (ps_if (pt_cmpR op_eq (pv 4) (pe_gi rfl T.g_STEP_LEFT) (nomark _)) 
            (pss_one (ps_aug (i := 0) sc_upright_steps.nd rfl (Or.inl rfl) (pe_int) ip_sub)) 
            (pss_one (ps_if (pt_cmpR op_eq (pv 4) (pe_gi rfl T.g_STEP_UP) (nomark _)) 
              (pss_cons (ps_expr (pe_bm PySem.F.plainAttrs_list PySem.F.slot_list_append PySem.F.type_list_append mt_append (pv 3) (pa_cons (pe_tup (pa_cons (pv 0) (pa_cons (pv 1) (pa_cons (pe_int) pa_nil)))) pa_nil)))
              (pss_one (ps_aug (i := 1) sc_upright_steps.nd rfl (Or.inl rfl) (pe_int) ip_add))) 
              (pss_cons (ps_aug (i := 1) sc_upright_steps.nd rfl (Or.inl rfl) (pe_int) ip_sub)
              (pss_one (ps_expr (pe_bm PySem.F.plainAttrs_list PySem.F.slot_list_append PySem.F.type_list_append mt_append (pv 3) (pa_cons (pe_tup (pa_cons (pv 0) (pa_cons (pv 1) (pa_cons (pe_un un_neg (pe_int)) pa_nil)))) pa_nil))))))))))))
      (pss_one (ps_ret (pv 3))))), ?_⟩
    refine ⟨Nat.zero_le _, fun q hq => ?_⟩
    refine ⟨_, rfl, a, rfl, ⟨_, (same_new hq).seq hS⟩, for_list (K := K) (a := a) (xs := ns.map V.int)
      (fun i σ H' => ∃ (v : Option V) (x' y' : Int) (as : List Addr) (rs : List (Int × Int × Int)), σ = [some (.int x'), some (.int y'), some (.ref a), some (.ref q), v] ∧ Same H H' ∧ H' q = some (.lst (as.map V.ref)) ∧ Rows3 H' as rs ∧ as.length ≤ i ∧ rs ++ upr x' y' (ns.drop i) = upr x y ns)
      ⟨none, x, y, [], [], rfl, same_new hq, upd_same, .nil, Nat.le_refl _, rfl⟩ (fun i σ H' _ ⟨_, _, _, _, _, _, s5, _⟩ => s5.seq hS) ?_ ?_⟩
    · rintro i yv σ H' hi ⟨v, x', y', as, rs, rfl, s5, hq', hR, hl, hu⟩
      obtain ⟨z, hz, rfl⟩ := map_at hi
      have hil : i < ns.length := (List.getElem?_eq_some_iff.mp hz).1
      rw [drop_at hz] at hu
      refine ⟨_, rfl, rfl, _, rfl, ite2 (fun h0 => ?_) (fun h0 => ?_)⟩
      · have h0 : z = 0 := V.int.inj (of_decide_eq_true h0)
        subst h0
        exact ⟨_, rfl, _, _, rfl, rfl, _, _, _, as, rs, rfl, s5, hq', hR, by omega, hu⟩
      have h0 : ¬ z = 0 := fun e => h0 (decide_eq_true (congrArg V.int e))
      refine ⟨_, rfl, rfl, _, rfl, ite2 (fun h1 => ?_) (fun h1 => ?_)⟩
      · have h1 : z = 1 := V.int.inj (of_decide_eq_true h1)
        subst h1
        exact ⟨_, rfl, _, _, rfl, rfl, _, _, _, as, rs, rfl, s5, hq', hR, by omega, hu⟩
      have h1 : ¬ z = 1 := fun e => h1 (decide_eq_true (congrArg V.int e))
      refine ⟨_, rfl, rfl, _, rfl, ite2 (fun h2 => ?_) (fun h2 => ?_)⟩
      · have h2 : z = 2 := V.int.inj (of_decide_eq_true h2)
        subst h2
        refine ⟨_, rfl, .inl ⟨rfl, _, SqL.of hq'⟩, _, rfl, _, rfl, (by show 3 ≤ sizeLine; decide), fun c hc => ?_⟩
        have s6 := same_new (o := .tup [.int x', .int y', .int 1]) hc
        refine ⟨q, _, _, rfl, rfl, s6 _ _ hq', (by rw [List.length_map]; exact small1000 (by omega)), ?_⟩
        have nqc : c ≠ q := (ne_of_none hq' hc).symm
        have hq0 : H q = Option.none := hq
        refine ⟨_, rfl, _, _, rfl, rfl, _, _, _, as ++ [c], rs ++ [(x', y', 1)], rfl, ?_, ?_, ?_, ?_, ?_⟩
        · intro b o e
          rw [upd_ne (ne_of_none e hq0)]
          exact s6 _ _ (s5 _ _ e)
        · rw [upd_same, List.map_append]
          rfl
        · refine Rows3.snoc (Paired.mapP hR fun b r e => ?_) ?_
          · show upd _ _ _ b = _
            rw [upd_ne (ne_of e hq' (by intro z; cases z))]
            exact s6 _ _ e
          · show upd _ _ _ c = _
            rw [upd_ne nqc]
            exact upd_same
        · rw [List.length_append]
          exact Nat.add_le_add_right hl 1
        · rw [List.append_assoc]
          exact hu
      · have h2 : ¬ z = 2 := fun e => h2 (decide_eq_true (congrArg V.int e))
        rw [upr, if_neg h0, if_neg h1, if_neg h2] at hu
        refine ⟨_, rfl, _, _, rfl, rfl, ?_⟩
        refine ⟨_, rfl, .inl ⟨rfl, _, SqL.of hq'⟩, _, rfl, _, rfl, _, rfl, (by show 3 ≤ sizeLine; decide), fun c hc => ?_⟩
        have s6 := same_new (o := .tup [.int x', .int (y' - 1), .int (-1)]) hc
        refine ⟨q, _, _, rfl, rfl, s6 _ _ hq', (by rw [List.length_map]; exact small1000 (by omega)), ?_⟩
        have nqc : c ≠ q := (ne_of_none hq' hc).symm
        have hq0 : H q = Option.none := hq
        refine ⟨_, _, _, as ++ [c], rs ++ [(x', y' - 1, -1)], rfl, ?_, ?_, ?_, ?_, ?_⟩
        · intro b o e
          rw [upd_ne (ne_of_none e hq0)]
          exact s6 _ _ (s5 _ _ e)
        · rw [upd_same, List.map_append]
          rfl
        · refine Rows3.snoc (Paired.mapP hR fun b r e => ?_) ?_
          · show upd _ _ _ b = _
            rw [upd_ne (ne_of e hq' (by intro z; cases z))]
            exact s6 _ _ e
          · show upd _ _ _ c = _
            rw [upd_ne nqc]
            exact upd_same
        · rw [List.length_append]
          exact Nat.add_le_add_right hl 1
        · rw [List.append_assoc]
          exact hu
    · rintro σ H' ⟨v, x', y', as, rs, rfl, s5, hq', hR, hl, hu⟩
      rw [List.length_map, List.drop_length] at hu
      have hu : rs = upr x y ns := by rw [← hu]; exact (List.append_nil rs).symm
      subst hu
      exact ⟨_, rfl, k _ q s5 hq ⟨as, SqL.of hq', hR⟩⟩
/-! ### turning -/
def spTurn (K : PySem.W.Frag) : Sp := fun vs H Q _ => ∃ (x y : Int) (a : Addr) (ns : List Int), vs = [.int x, .int y, .ref a] ∧ SqL K H a (ns.map V.int) ∧ ns.length ≤ 1000 ∧ Gives H (.int ((upr x y ns).map fT).sum) Q
theorem sc_turning : FnScope ["right", "up", "way", "turned", "side", "height", "sense"] ["right", "up", "way"] (defScope s_turning) := ⟨rfl, rfl, rfl, by decide +kernel, rfl, by decide +kernel, by decide +kernel⟩
theorem ok_turn {f : Addr} {fd : FuncData} (F : Fun K "turning" "turning" s_turning f fd) (T : Txt K mg C) (G_upright_steps : Fn P w K mg base 1 "upright_steps" ["right", "up", "way"] (spUpr K)) :
    FnOk P w K mg base CX0 2 f fd ["right", "up", "way"] (spTurn K) := by
  refine F.ok sc_turning (fun vs H Q E h => ?_) (fun cdv A outer s H vs Q E hr h => ?_)
  · obtain ⟨x, y, a, ns, rfl, _⟩ := h
    rfl
  · obtain ⟨x, y, a, ns, rfl, hS, hlen, k⟩ := h
    refine ⟨_, (pss_cons (ps_set (i := 3) sc_turning.nd rfl (Or.inl rfl) (pe_int))
      (pss_cons (ps_for PassesOwn.never rfl (pi_list (pe_fn G_upright_steps (hr.mono (by decide)) rfl (pa_cons (pv 0) (pa_cons (pv 1) (pa_cons (pv 2) pa_nil))))) (pg_tup rfl (pgs_cons (pg_name (i := 4) sc_turning.nd rfl (Or.inl rfl)) (pgs_cons (pg_name (i := 5) sc_turning.nd rfl (Or.inl rfl)) (pgs_cons (pg_name (i := 6) sc_turning.nd rfl (Or.inl rfl)) pgs_nil)))) 
        (pss_one (ps_aug (i := 3) sc_turning.nd rfl (Or.inl rfl) (pe_op op_mul (pv 4) (pv 6)) ip_add)))
      (pss_one (ps_ret (pv 3))))), ?_⟩
    refine ⟨_, rfl, _, rfl, _, rfl, x, y, a, ns, rfl, hS, hlen, fun H2 p s2 hn2 ⟨as, hp, hR⟩ => ?_⟩
    refine ⟨p, rfl, ⟨_, hp⟩, for_list (K := K) (a := p) (xs := as.map V.ref)
      (fun i σ H' => ∃ (v1 v2 v3 : Option V), σ = [some (.int x), some (.int y), some (.ref a), some (.int (((upr x y ns).map fT).take i).sum), v1, v2, v3] ∧ Same H2 H')
      ⟨none, none, none, rfl, same_refl _⟩ (fun i σ H' _ ⟨_, _, _, _, s5⟩ => s5.seq hp) ?_ ?_⟩
    · rintro i yv σ H' hi ⟨v1, v2, v3, rfl, s5⟩
      obtain ⟨c, hc, rfl⟩ := map_at hi
      obtain ⟨r, hr3, hrow⟩ := hR.at hc
      have hs := upr_sense ns x y r (List.mem_of_getElem? hr3)
      refine ⟨c, _, rfl, SqT.of (s5 _ _ hrow), rfl, _, _, rfl, _, _, rfl, _, _, rfl, rfl, ?_⟩
      refine ⟨_, rfl, _, rfl, _, rfl, _, _, rfl, rfl, .inr (by rcases hs with e | e <;> rw [e] <;> decide), _, _, rfl, rfl, some (.int r.1), some (.int r.2.1), some (.int r.2.2), ?_, s5⟩
      rw [L2.sum_take (l := (upr x y ns).map fT) (i := i) (z := fT r) (by rw [List.getElem?_map, hr3]; rfl)]
      rfl
    · rintro σ H' ⟨v1, v2, v3, rfl, s5⟩
      refine ⟨_, rfl, ?_⟩
      have e : as.length = (upr x y ns).length := Paired.length hR
      rw [List.length_map, e, ← List.length_map (f := fT), List.take_length]
      exact k _ (s2.trans s5)
/-! ### times_round -/
def spTimes (K : PySem.W.Frag) : Sp := fun vs H Q _ => ∃ (x y : Int) (a : Addr) (rs : List (Int × Int × Int)), vs = [.int x, .int y, .ref a] ∧ Rows3At K H a rs ∧ Gives H (.int (rs.map (fR x y)).sum) Q
theorem sc_times_round : FnScope ["square_right", "square_up", "uprights", "often", "side", "height", "sense"] ["square_right", "square_up", "uprights"] (defScope s_times_round) := ⟨rfl, rfl, rfl, by decide +kernel, rfl, by decide +kernel, by decide +kernel⟩
theorem ok_times {f : Addr} {fd : FuncData} (F : Fun K "times_round" "times_round" s_times_round f fd) (T : Txt K mg C) :
    FnOk P w K mg base CX0 1 f fd ["square_right", "square_up", "uprights"] (spTimes K) := by
  refine F.ok sc_times_round (fun vs H Q E h => ?_) (fun cdv A outer s H vs Q E hr h => ?_)
  · obtain ⟨x, y, a, ns, rfl, _⟩ := h
    rfl
  · obtain ⟨x, y, a, rs, rfl, ⟨as, hp, hR⟩, k⟩ := h
    refine ⟨_, (pss_cons (ps_set (i := 3) sc_times_round.nd rfl (Or.inl rfl) (pe_int))
      (pss_cons (ps_for PassesOwn.never rfl (pi_list (pv 2)) (pg_tup rfl (pgs_cons (pg_name (i := 4) sc_times_round.nd rfl (Or.inl rfl)) (pgs_cons (pg_name (i := 5) sc_times_round.nd rfl (Or.inl rfl)) (pgs_cons (pg_name (i := 6) sc_times_round.nd rfl (Or.inl rfl)) pgs_nil)))) 
        (pss_one (ps_if (PW.pt (pw_and (pt_cmpR op_eq (pv 5) (pv 1) (nomark _)) (pw_and1 (pt_cmpR op_gt (pv 4) (pv 0) (nomark _))))) 
          (pss_one (ps_aug (i := 3) sc_times_round.nd rfl (Or.inl rfl) (pv 6) ip_add)) pss_nil)))
      (pss_one (ps_ret (pv 3))))), ?_⟩
    refine ⟨_, rfl, a, rfl, ⟨_, hp⟩, for_list (K := K) (a := a) (xs := as.map V.ref)
      (fun i σ H' => ∃ (v1 v2 v3 : Option V), σ = [some (.int x), some (.int y), some (.ref a), some (.int ((rs.map (fR x y)).take i).sum), v1, v2, v3] ∧ Same H H')
      ⟨none, none, none, rfl, same_refl _⟩ (fun i σ H' _ ⟨_, _, _, _, s5⟩ => s5.seq hp) ?_ ?_⟩
    · rintro i yv σ H' hi ⟨v1, v2, v3, rfl, s5⟩
      obtain ⟨c, hc, rfl⟩ := map_at hi
      obtain ⟨r, hr3, hrow⟩ := hR.at hc
      have hsum := L2.sum_take (l := rs.map (fR x y)) (i := i) (z := fR x y r) (by rw [List.getElem?_map, hr3]; rfl)
      refine ⟨c, _, rfl, SqT.of (s5 _ _ hrow), rfl, _, _, rfl, _, _, rfl, _, _, rfl, rfl, ?_⟩
      refine ⟨_, rfl, _, rfl, rfl, _, rfl, ite2 (fun h1 => ?_) (fun h1 => ?_)⟩
      · have h1 : r.2.1 = y := V.int.inj (of_decide_eq_true h1)
        refine ⟨_, rfl, _, rfl, _, _, rfl, rfl, _, rfl, ite2 (fun h2 => ?_) (fun h2 => ?_)⟩
        · have h2 : x < r.1 := of_decide_eq_true h2
          refine ⟨_, rfl, _, rfl, _, _, rfl, rfl, some (.int r.1), some (.int r.2.1), some (.int r.2.2), ?_, s5⟩
          rw [hsum, fR, if_pos ⟨h1, h2⟩]
          rfl
        · have h2 : ¬ x < r.1 := fun z => h2 (decide_eq_true z)
          refine ⟨some (.int r.1), some (.int r.2.1), some (.int r.2.2), ?_, s5⟩
          rw [hsum, fR, if_neg (fun z => h2 z.2), Int.add_zero]
          rfl
      · have h1 : ¬ r.2.1 = y := fun z => h1 (decide_eq_true (congrArg V.int z))
        refine iteF ?_
        refine ⟨some (.int r.1), some (.int r.2.1), some (.int r.2.2), ?_, s5⟩
        rw [hsum, fR, if_neg (fun z => h1 z.1), Int.add_zero]
        rfl
    · rintro σ H' ⟨v1, v2, v3, rfl, s5⟩
      refine ⟨_, rfl, ?_⟩
      have e : as.length = rs.length := Paired.length hR
      rw [List.length_map, e, ← List.length_map (f := fR x y), List.take_length]
      exact k _ s5
end
end WA
end
section
set_option Elab.async false
set_option linter.all false
set_option maxRecDepth 100000
set_option maxHeartbeats 2000000
namespace WA
open PySem PySem.Spec PyProof.Rows L2
open Mu55 (Pt onPaper State isWay closes ending turn step)
/-! ### the object -/
/-- the pointer's object at a stands for the state o -/
def PtrAt (C : Addr) (H : Hp) (a : Addr) : Mu55.Abs → Prop
  | none => ∃ (dx : Addr) (x y wh n : Int), H a = some (.ins C dx (pf false x y wh n))
  | some s => onPaper s.here = true ∧ ∃ dx : Addr, H a = some (.ins C dx (pf true s.here.x s.here.y s.wheel s.steps))
/-- all but a stands -/
def Kept (a : Addr) (H H' : Hp) : Prop := ∀ b u, H b = some u → b ≠ a → H' b = some u
theorem Kept.of {a : Addr} {H H' : Hp} (s : Same H H') : Kept a H H' := fun b u e _ => s b u e
theorem Kept.trans {a : Addr} {H H1 H2 : Hp} (k : Kept a H H1) (l : Kept a H1 H2) : Kept a H H2 := fun b u e n => l b u (k b u e n) n
theorem Kept.upd {a : Addr} {H : Hp} {o : HO} : Kept a H (upd H a o) := fun b u e n => by
  rw [upd_ne n]
  exact e
theorem Kept.seq {K : PySem.W.Frag} {a b : Addr} {H H' : Hp} {xs : List V} {C dx : Addr} {fs : List (Str × V)} (k : Kept a H H') (h : SqL K H b xs) (ha : H a = some (.ins C dx fs)) : SqL K H' b xs := by
  rcases h with (h | ⟨o, h⟩) | h
  · exact .inl (.inl (k _ _ h (ne_of h ha (by intro z; cases z))))
  · exact .inl (.inr ⟨o, k _ _ h (ne_of h ha (by intro z; cases z))⟩)
  · exact .inr h
/-- what a method leaves: the object's new state, a new list of numbers -/
def After (C a : Addr) (H : Hp) (r : Mu55.Abs × List Int) (Q : VK) : Prop := ∀ (H' : Hp) (p : Addr), PtrAt C H' a r.1 → Kept a H H' → H p = Option.none → H' p = some (.lst (r.2.map V.int)) → Q (.ref p) H'
theorem PtrAt.same {C a : Addr} {H H' : Hp} {o : Mu55.Abs} (s : Same H H') (h : PtrAt C H a o) : PtrAt C H' a o := by
  cases o with
  | none =>
    obtain ⟨dx, x, y, wh, n, e⟩ := h
    exact ⟨dx, x, y, wh, n, s _ _ e⟩
  | some st =>
    obtain ⟨h1, dx, e⟩ := h
    exact ⟨h1, dx, s _ _ e⟩
/-- a way is handed to a method of the object -/
def spW (K : PySem.W.Frag) (C : Addr) (c : List Nat → Mu55.Call) : Sp := fun vs H Q _ => ∃ (a b : Addr) (st : State) (ns : List Int), vs = [.ref a, .ref b] ∧ PtrAt C H a (some st) ∧ SqL K H b (ns.map V.int) ∧ NonNeg ns ∧ After C a H (step (some st) (c (nats ns))) Q
def sp0 (C : Addr) (c : Mu55.Call) : Sp := fun vs H Q _ => ∃ (a : Addr) (st : State), vs = [.ref a] ∧ PtrAt C H a (some st) ∧ After C a H (step (some st) c) Q
section
variable {P : Program} {w : World} {K : PySem.W.Frag} {mg : Str → Option Value} {base : Heap} {C : Addr}
/-! ### __init__ -/
def spInit (C : Addr) : Sp := fun vs H Q _ => ∃ (p dx : Addr), vs = [.ref p] ∧ H p = some (.ins C dx []) ∧ ∀ H' : Hp, PtrAt C H' p none → Kept p H H' → Q .non H'
theorem sc_Pointer___init__ : FnScope ["self"] ["self"] (defScope s_Pointer___init__) := ⟨rfl, rfl, rfl, by decide +kernel, rfl, by decide +kernel, by decide +kernel⟩
theorem ok_init {f : Addr} {fd : FuncData} (F : Fun K "__init__" "Pointer.__init__" s_Pointer___init__ f fd) (T : Txt K mg C) : FnOk P w K mg base CX0 1 f fd ["self"] (spInit C) := by
  refine F.ok sc_Pointer___init__ (fun vs H Q E h => ?_) (fun cdv A outer s H vs Q E hr h => ?_)
  · obtain ⟨p, dx, rfl, _⟩ := h
    rfl
  · obtain ⟨p, dx, rfl, hp, k⟩ := h
    refine ⟨_, (pss_cons (ps_fld (pv 0) (pe_bl) rfl)
      (pss_cons (ps_fld (pv 0) (pe_int) rfl)
      (pss_cons (ps_fld (pv 0) (pe_int) rfl)
      (pss_cons (ps_fld (pv 0) (pe_int) rfl)
      (pss_one (ps_fld (pv 0) (pe_int) rfl)))))), ?_⟩
    refine ⟨_, rfl, p, C, dx, _, rfl, hp, T.cl, T.n_has_paper, (by show 0 < 1000; decide), ?_⟩
    refine ⟨_, rfl, p, C, dx, _, rfl, upd_same, T.cl, T.n_right, (by show 1 < 1000; decide), ?_⟩
    rw [upd_upd]
    refine ⟨_, rfl, p, C, dx, _, rfl, upd_same, T.cl, T.n_up, (by show 2 < 1000; decide), ?_⟩
    rw [upd_upd]
    refine ⟨_, rfl, p, C, dx, _, rfl, upd_same, T.cl, T.n_wheel, (by show 3 < 1000; decide), ?_⟩
    rw [upd_upd]
    refine ⟨_, rfl, p, C, dx, _, rfl, upd_same, T.cl, T.n_steps_made, (by show 4 < 1000; decide), ?_⟩
    rw [upd_upd]
    refine k _ ⟨dx, 0, 0, 0, 0, ?_⟩ Kept.upd
    rw [upd_same]
    refine congrArg (fun q => some (HO.ins C dx q)) ?_
    rw [pf_mk_has_paper false 0 0 0 0, pf_mk_right false 0 0 0 0, pf_mk_up false 0 0 0 0, pf_mk_wheel false 0 0 0 0, pf_mk_steps_made false 0 0 0 0]
    rfl
/-! ### begin -/
def spBegin (C : Addr) : Sp := fun vs H Q _ => ∃ (a : Addr) (x y : Int) (o : Mu55.Abs), vs = [.ref a, .int x, .int y] ∧ PtrAt C H a o ∧ 0 ≤ x ∧ 0 ≤ y ∧ After C a H (step o (.begin_ x.toNat y.toNat)) Q
theorem sc_Pointer_begin : FnScope ["self", "right", "up"] ["self", "right", "up"] (defScope s_Pointer_begin) := ⟨rfl, rfl, rfl, by decide +kernel, rfl, by decide +kernel, by decide +kernel⟩
theorem PtrAt.any {C a : Addr} {H : Hp} {o : Mu55.Abs} (h : PtrAt C H a o) : ∃ (dx : Addr) (b : Bool) (x y wh n : Int), H a = some (.ins C dx (pf b x y wh n)) := by
  cases o with
  | none =>
    obtain ⟨dx, x, y, wh, n, e⟩ := h
    exact ⟨dx, _, x, y, wh, n, e⟩
  | some st =>
    obtain ⟨_, dx, e⟩ := h
    exact ⟨dx, _, _, _, _, _, e⟩
theorem ok_begin {f : Addr} {fd : FuncData} (F : Fun K "begin" "Pointer.begin" s_Pointer_begin f fd) (T : Txt K mg C) : FnOk P w K mg base CX0 1 f fd ["self", "right", "up"] (spBegin C) := by
  refine F.ok sc_Pointer_begin (fun vs H Q E h => ?_) (fun cdv A outer s H vs Q E hr h => ?_)
  · obtain ⟨a, x, y, o, rfl, _⟩ := h
    rfl
  · obtain ⟨a, x, y, o, rfl, hP, hx0, hy0, k⟩ := h
    refine ⟨_, (pss_cons (ps_if (PW.pt (pw_or (pt_cmpR op_gt (pv 1) (pe_gi rfl T.g_EDGE) (nomark _)) (pw_or1 (pt_cmpR op_gt (pv 2) (pe_gi rfl T.g_EDGE) (nomark _))))) 
        (pss_one (ps_ret (pe_lst (pa_cons (pe_gi rfl T.g_NOT_LET) pa_nil)))) pss_nil)
      (pss_cons (ps_fld (pv 0) (pe_bl) rfl)
      (pss_cons (ps_fld (pv 0) (pv 1) rfl)
      (pss_cons (ps_fld (pv 0) (pv 2) rfl)
      (pss_cons (ps_fld (pv 0) (pe_int) rfl)
      (pss_cons (ps_fld (pv 0) (pe_int) rfl)
      (pss_one (ps_ret (pe_lst (pa_cons (pe_int) pa_nil)))))))))), ?_⟩
    have bad : (8 < x ∨ 8 < y) → ∀ p, H p = Option.none → Q (.ref p) (upd H p (.lst [.int (-1)])) := fun hb p hp => by
      have e : step o (.begin_ x.toNat y.toNat) = (o, [-1]) := by
        show (if Mu55.WIDE < x.toNat ∨ Mu55.WIDE < y.toNat then (o, [-1]) else _) = _
        rw [if_pos (by show 8 < x.toNat ∨ 8 < y.toNat; omega)]
      rw [e] at k
      exact k _ p (hP.same (same_new hp)) (Kept.of (same_new hp)) hp upd_same
    refine ⟨_, rfl, _, _, rfl, rfl, _, rfl, ite2 (fun h1 => ?_) (fun h1 => ?_)⟩
    · exact ⟨(by show 1 ≤ sizeLine; decide), bad (.inl (of_decide_eq_true h1))⟩
    refine ⟨_, rfl, _, _, rfl, rfl, _, rfl, ite2 (fun h2 => ?_) (fun h2 => ?_)⟩
    · exact ⟨(by show 1 ≤ sizeLine; decide), bad (.inr (of_decide_eq_true h2))⟩
    have h1 : ¬ 8 < x := fun z => h1 (decide_eq_true z)
    have h2 : ¬ 8 < y := fun z => h2 (decide_eq_true z)
    obtain ⟨dx, b0, x0, y0, w0, n0, hA⟩ := hP.any
    refine ⟨_, rfl, a, C, dx, _, rfl, hA, T.cl, T.n_has_paper, (by show 5 < 1000; decide), ?_⟩
    rw [pf_put_has_paper]
    refine ⟨_, rfl, _, rfl, a, C, dx, _, rfl, upd_same, T.cl, T.n_right, (by show 5 < 1000; decide), ?_⟩
    rw [upd_upd, pf_put_right]
    refine ⟨_, rfl, _, rfl, a, C, dx, _, rfl, upd_same, T.cl, T.n_up, (by show 5 < 1000; decide), ?_⟩
    rw [upd_upd, pf_put_up]
    refine ⟨_, rfl, a, C, dx, _, rfl, upd_same, T.cl, T.n_wheel, (by show 5 < 1000; decide), ?_⟩
    rw [upd_upd, pf_put_wheel]
    refine ⟨_, rfl, a, C, dx, _, rfl, upd_same, T.cl, T.n_steps_made, (by show 5 < 1000; decide), ?_⟩
    rw [upd_upd, pf_put_steps_made]
    refine ⟨(by show 1 ≤ sizeLine; decide), fun p hp => ?_⟩
    have e : step o (.begin_ x.toNat y.toNat) = (some ⟨⟨(x.toNat : Int), (y.toNat : Int)⟩, 0, 0⟩, [0]) := by
      show (if Mu55.WIDE < x.toNat ∨ Mu55.WIDE < y.toNat then _ else _) = _
      rw [if_neg (by show ¬ (8 < x.toNat ∨ 8 < y.toNat); omega)]
    rw [e, Int.toNat_of_nonneg hx0, Int.toNat_of_nonneg hy0] at k
    have npa : p ≠ a := fun z => by rw [z, upd_same] at hp; cases hp
    have hp0 : H p = Option.none := by rw [upd_ne npa] at hp; exact hp
    refine k _ p ⟨on_iff.mpr (by omega), dx, ?_⟩ (Kept.trans Kept.upd (Kept.of (same_new hp))) hp0 upd_same
    rw [upd_ne npa.symm, upd_same]
    rfl
/-! ### zero -/
theorem sc_Pointer_zero : FnScope ["self", "said"] ["self"] (defScope s_Pointer_zero) := ⟨rfl, rfl, rfl, by decide +kernel, rfl, by decide +kernel, by decide +kernel⟩
theorem ok_zero {f : Addr} {fd : FuncData} (F : Fun K "zero" "Pointer.zero" s_Pointer_zero f fd) (T : Txt K mg C) : FnOk P w K mg base CX0 1 f fd ["self"] (sp0 C .zero) := by
  refine F.ok sc_Pointer_zero (fun vs H Q E h => ?_) (fun cdv A outer s H vs Q E hr h => ?_)
  · obtain ⟨a, st, rfl, _⟩ := h
    rfl
  · obtain ⟨a, st, rfl, ⟨hon, dx, hA⟩, k⟩ := h
    refine ⟨_, (pss_cons (ps_set (i := 1) sc_Pointer_zero.nd rfl (Or.inl rfl) (pe_fld (pv 0) rfl))
      (pss_cons (ps_fld (pv 0) (pe_int) rfl)
      (pss_one (ps_ret (pe_lst (pa_cons (pe_int) (pa_cons (pv 1) pa_nil))))))), ?_⟩
    refine ⟨_, rfl, a, C, dx, _, _, rfl, hA, T.cl, T.n_wheel, pf_wheel _ _ _ _ _, ?_⟩
    refine ⟨_, rfl, a, C, dx, _, rfl, hA, T.cl, T.n_wheel, (by show 5 < 1000; decide), ?_⟩
    rw [pf_put_wheel]
    refine ⟨_, rfl, (by show 2 ≤ sizeLine; decide), fun p hp => ?_⟩
    have npa : p ≠ a := fun z => by rw [z, upd_same] at hp; cases hp
    have hp0 : H p = Option.none := by rw [upd_ne npa] at hp; exact hp
    refine k _ p ⟨hon, dx, ?_⟩ (Kept.trans Kept.upd (Kept.of (same_new hp))) hp0 upd_same
    rw [upd_ne npa.symm, upd_same]
end
end WA
end
section
set_option Elab.async false
set_option linter.all false
set_option maxRecDepth 100000
set_option maxHeartbeats 2000000
namespace WA
open PySem PySem.Spec PyProof.Rows L2
open Mu55 (Pt onPaper State isWay closes ending turn step)
section
variable {P : Program} {w : World} {K : PySem.W.Frag} {mg : Str → Option Value} {base : Heap} {C : Addr}
/-! ### walk -/
def spWalk (K : PySem.W.Frag) (C : Addr) : Sp := fun vs H Q _ => ∃ (a b : Addr) (st : State) (ns : List Int), vs = [.ref a, .ref b] ∧ PtrAt C H a (some st) ∧ SqL K H b (ns.map V.int) ∧ Steps ns ∧ ns.length ≤ 1000 ∧ onPaper (ending st.here (nats ns)) = true ∧
  ∀ H' : Hp, PtrAt C H' a (some ⟨ending st.here (nats ns), st.wheel + turn st.here (nats ns), st.steps + (nats ns).length⟩) → Kept a H H' → Q .non H'
theorem sc_Pointer_walk : FnScope ["self", "way", "end"] ["self", "way"] (defScope s_Pointer_walk) := ⟨rfl, rfl, rfl, by decide +kernel, rfl, by decide +kernel, by decide +kernel⟩
theorem ok_walk {f : Addr} {fd : FuncData} (F : Fun K "walk" "Pointer.walk" s_Pointer_walk f fd) (T : Txt K mg C) (G_turning : Fn P w K mg base 2 "turning" ["right", "up", "way"] (spTurn K))
    (G_end_of : Fn P w K mg base 1 "end_of" ["right", "up", "way"] (spEnd K)) : FnOk P w K mg base CX0 3 f fd ["self", "way"] (spWalk K C) := by
  refine F.ok sc_Pointer_walk (fun vs H Q E h => ?_) (fun cdv A outer s H vs Q E hr h => ?_)
  · obtain ⟨a, b, st, ns, rfl, _⟩ := h
    rfl
  · obtain ⟨a, b, st, ns, rfl, ⟨hon, dx, hA⟩, hS, hst, hl, hend, k⟩ := h
    refine ⟨_, (pss_cons (ps_fldaug (pv 0) (pe_fn G_turning (hr.mono (by decide)) rfl (pa_cons (pe_fld (pv 0) rfl) (pa_cons (pe_fld (pv 0) rfl) (pa_cons (pv 1) pa_nil)))) in_add)
      (pss_cons (ps_fldaug (pv 0) (pe_callB call_len_seq (by rfl) T.b_len boot_len (pa_cons (pv 1) pa_nil)) in_add)
      (pss_cons (ps_set (i := 2) sc_Pointer_walk.nd rfl (Or.inl rfl) (pe_fn G_end_of (hr.mono (by decide)) rfl (pa_cons (pe_fld (pv 0) rfl) (pa_cons (pe_fld (pv 0) rfl) (pa_cons (pv 1) pa_nil)))))
      (pss_cons (ps_fld (pv 0) (pe_ix ix_tup (pv 2) (pe_int) (fun _ _ => rfl)) rfl)
      (pss_one (ps_fld (pv 0) (pe_ix ix_tup (pv 2) (pe_int) (fun _ _ => rfl)) rfl)))))), ?_⟩
    rw [ending_eq ns _ hst, ← turn_upr ns _ hst, nats_len] at k
    rw [ending_eq ns _ hst] at hend
    -- self.wheel += turning(..)
    refine ⟨_, rfl, a, C, dx, _, _, rfl, hA, T.cl, T.n_wheel, pf_wheel _ _ _ _ _, _, rfl, a, C, dx, _, _, rfl, hA, T.cl, T.n_right, pf_right _ _ _ _ _, _, rfl, a, C, dx, _, _, rfl, hA, T.cl, T.n_up, pf_up _ _ _ _ _, _, rfl, _, _, b, ns, rfl, hS, hl, fun H2 s2 => ?_⟩
    have hA2 := s2 _ _ hA
    refine ⟨_, _, rfl, rfl, dx, _, hA2, (by show 5 < 1000; decide), ?_⟩
    rw [pf_put_wheel]
    have hS2 : SqL K (upd H2 a (.ins C dx (pf true st.here.x st.here.y (st.wheel + (List.map fT (upr st.here.x st.here.y ns)).sum) st.steps))) b (ns.map V.int) := Kept.seq Kept.upd (s2.seq hS) hA2
    -- self.steps_made += len(way)
    refine ⟨_, rfl, a, C, dx, _, _, rfl, upd_same, T.cl, T.n_steps_made, pf_steps_made _ _ _ _ _, _, rfl, b, _, rfl, .inl hS2, _, _, rfl, rfl, dx, _, upd_same, (by show 5 < 1000; decide), ?_⟩
    rw [upd_upd, pf_put_steps_made, List.length_map]
    have hS3 : SqL K (upd H2 a (.ins C dx (pf true st.here.x st.here.y (st.wheel + (List.map fT (upr st.here.x st.here.y ns)).sum) (st.steps + (ns.length : Int))))) b (ns.map V.int) := Kept.seq Kept.upd (s2.seq hS) hA2
    -- end = end_of(..)
    refine ⟨_, rfl, a, C, dx, _, _, rfl, upd_same, T.cl, T.n_right, pf_right _ _ _ _ _, _, rfl, a, C, dx, _, _, rfl, upd_same, T.cl, T.n_up, pf_up _ _ _ _ _, _, rfl, _, _, b, ns, rfl, hS3, fun H3 c s3 hn3 hc => ?_⟩
    have hA3 := s3 _ _ upd_same
    refine ⟨_, rfl, c, _, _, _, rfl, rfl, SqT.of hc, rfl, _, rfl, a, C, dx, _, rfl, hA3, T.cl, T.n_right, (by show 5 < 1000; decide), ?_⟩
    rw [pf_put_right]
    have nca : c ≠ a := ne_of hc hA3 (by intro z; cases z)
    refine ⟨_, rfl, c, _, _, _, rfl, rfl, SqT.of (by rw [upd_ne nca]; exact hc), rfl, _, rfl, a, C, dx, _, rfl, upd_same, T.cl, T.n_up, (by show 5 < 1000; decide), ?_⟩
    rw [upd_upd, pf_put_up]
    refine k _ ⟨hend, dx, ?_⟩ (((Kept.of s2).trans Kept.upd).trans ((Kept.of s3).trans Kept.upd))
    rw [upd_same]
    rfl
/-! ### go -/
theorem Kept.free {a p : Addr} {H H' : Hp} (k : Kept a H H') (n : p ≠ a) (h : H' p = Option.none) : H p = Option.none := by
  cases e : H p with
  | none => rfl
  | some u => rw [k _ _ e n] at h; cases h
theorem sc_Pointer_go : FnScope ["self", "way"] ["self", "way"] (defScope s_Pointer_go) := ⟨rfl, rfl, rfl, by decide +kernel, rfl, by decide +kernel, by decide +kernel⟩
theorem ok_go {f : Addr} {fd : FuncData} (F : Fun K "go" "Pointer.go" s_Pointer_go f fd) (T : Txt K mg C) (G_is_way : Fn P w K mg base 2 "is_way" ["right", "up", "way"] (spWay K)) (G_walk : Me P w K mg base C 3 "walk" ["self", "way"] (spWalk K C)) :
    FnOk P w K mg base CX0 4 f fd ["self", "way"] (spW K C .go) := by
  refine F.ok sc_Pointer_go (fun vs H Q E h => ?_) (fun cdv A outer s H vs Q E hr h => ?_)
  · obtain ⟨a, b, st, ns, rfl, _⟩ := h
    rfl
  · obtain ⟨a, b, st, ns, rfl, ⟨hon, dx, hA⟩, hS, hn, k⟩ := h
    refine ⟨_, (pss_cons (ps_if (pt_not (pt_val (pe_fn G_is_way (hr.mono (by decide)) rfl (pa_cons (pe_fld (pv 0) rfl) (pa_cons (pe_fld (pv 0) rfl) (pa_cons (pv 1) pa_nil)))))) 
        (pss_one (ps_ret (pe_lst (pa_cons (pe_gi rfl T.g_NOT_LET) pa_nil)))) pss_nil)
      (pss_cons (ps_expr (pe_me (pv 0) T.cl G_walk (hr.mono (by decide)) (pa_cons (pv 1) pa_nil)))
      (pss_one (ps_ret (pe_lst (pa_cons (pe_fld (pv 0) rfl) (pa_cons (pe_fld (pv 0) rfl) (pa_cons (pe_fld (pv 0) rfl) pa_nil)))))))), ?_⟩
    refine ⟨_, rfl, a, C, dx, _, _, rfl, hA, T.cl, T.n_right, pf_right _ _ _ _ _, _, rfl, a, C, dx, _, _, rfl, hA, T.cl, T.n_up, pf_up _ _ _ _ _, _, rfl, _, _, b, ns, rfl, hS, hn, fun H1 s1 => ?_⟩
    have ew := isWay_good st (nats ns) hon
    rw [nats_len] at ew
    rw [show (⟨st.here.x, st.here.y⟩ : Pt) = st.here from rfl, ← ew]
    refine ⟨_, rfl, ite2 (fun h1 => ?_) (fun h1 => ?_)⟩
    · have h1 : isWay st (nats ns) = false := by simpa using h1
      have e : step (some st) (.go (nats ns)) = (some st, [-1]) := by
        show (if isWay st (nats ns) = false then (some st, [-1]) else _) = _
        rw [if_pos h1]
      rw [e] at k
      refine ⟨(by show 1 ≤ sizeLine; decide), fun p hp => k _ p ⟨hon, dx, (same_new hp) _ _ (s1 _ _ hA)⟩ (Kept.of (s1.trans (same_new hp))) (s1.free hp) upd_same⟩
    · have h1 : isWay st (nats ns) = true := by simpa using h1
      have hst := isWay_steps hon hn h1
      have hl := isWay_len h1
      rw [nats_len] at hl
      have e : step (some st) (.go (nats ns)) = (some ⟨ending st.here (nats ns), st.wheel + turn st.here (nats ns), st.steps + (nats ns).length⟩, [(ending st.here (nats ns)).x, (ending st.here (nats ns)).y, st.wheel + turn st.here (nats ns)]) := by
        show (if isWay st (nats ns) = false then _ else _) = _
        rw [if_neg (by rw [h1]; exact Bool.noConfusion)]
      have hend := isWay_end hon h1
      rw [e] at k
      have hA1 := s1 _ _ hA
      refine ⟨_, rfl, a, dx, _, rfl, hA1, pf_no_walk _ _ _ _ _, _, rfl, a, b, st, ns, rfl, ⟨hon, dx, hA1⟩, s1.seq hS, hst, by omega, hend, fun H2 hP2 k2 => ?_⟩
      obtain ⟨hon2, dx2, hA2⟩ := id hP2
      refine ⟨_, rfl, a, C, dx2, _, _, rfl, hA2, T.cl, T.n_right, pf_right _ _ _ _ _, _, rfl, a, C, dx2, _, _, rfl, hA2, T.cl, T.n_up, pf_up _ _ _ _ _, _, rfl, a, C, dx2, _, _, rfl, hA2, T.cl, T.n_wheel, pf_wheel _ _ _ _ _, (by show 3 ≤ sizeLine; decide), fun p hp => ?_⟩
      have npa : p ≠ a := (ne_of_none hA2 hp).symm
      exact k _ p (hP2.same (same_new hp)) (((Kept.of s1).trans k2).trans (Kept.of (same_new hp))) (s1.free (k2.free npa hp)) upd_same
/-! ### area -/
theorem sc_Pointer_area : FnScope ["self", "way"] ["self", "way"] (defScope s_Pointer_area) := ⟨rfl, rfl, rfl, by decide +kernel, rfl, by decide +kernel, by decide +kernel⟩
theorem ok_area {f : Addr} {fd : FuncData} (F : Fun K "area" "Pointer.area" s_Pointer_area f fd) (T : Txt K mg C) (G_is_way : Fn P w K mg base 2 "is_way" ["right", "up", "way"] (spWay K)) (G_is_loop : Fn P w K mg base 2 "is_loop" ["right", "up", "way"] (spLoop K)) (G_turning : Fn P w K mg base 2 "turning" ["right", "up", "way"] (spTurn K)) :
    FnOk P w K mg base CX0 3 f fd ["self", "way"] (spW K C .area) := by
  refine F.ok sc_Pointer_area (fun vs H Q E h => ?_) (fun cdv A outer s H vs Q E hr h => ?_)
  · obtain ⟨a, b, st, ns, rfl, _⟩ := h
    rfl
  · obtain ⟨a, b, st, ns, rfl, ⟨hon, dx, hA⟩, hS, hn, k⟩ := h
    refine ⟨_, (pss_cons (ps_if (pt_not (pt_val (pe_fn G_is_way (hr.mono (by decide)) rfl (pa_cons (pe_fld (pv 0) rfl) (pa_cons (pe_fld (pv 0) rfl) (pa_cons (pv 1) pa_nil)))))) 
        (pss_one (ps_ret (pe_lst (pa_cons (pe_gi rfl T.g_NOT_LET) pa_nil)))) pss_nil)
      (pss_cons (ps_if (pt_not (pt_val (pe_fn G_is_loop (hr.mono (by decide)) rfl (pa_cons (pe_fld (pv 0) rfl) (pa_cons (pe_fld (pv 0) rfl) (pa_cons (pv 1) pa_nil)))))) 
        (pss_one (ps_ret (pe_lst (pa_cons (pe_gi rfl T.g_NO_LOOP) pa_nil)))) pss_nil)
      (pss_one (ps_ret (pe_lst (pa_cons (pe_int) (pa_cons (pe_fn G_turning (hr.mono (by decide)) rfl (pa_cons (pe_fld (pv 0) rfl) (pa_cons (pe_fld (pv 0) rfl) (pa_cons (pv 1) pa_nil)))) pa_nil))))))), ?_⟩
    refine ⟨_, rfl, a, C, dx, _, _, rfl, hA, T.cl, T.n_right, pf_right _ _ _ _ _, _, rfl, a, C, dx, _, _, rfl, hA, T.cl, T.n_up, pf_up _ _ _ _ _, _, rfl, _, _, b, ns, rfl, hS, hn, fun H1 s1 => ?_⟩
    have ew := isWay_good st (nats ns) hon
    rw [nats_len] at ew
    rw [show (⟨st.here.x, st.here.y⟩ : Pt) = st.here from rfl, ← ew]
    have e : step (some st) (.area (nats ns)) = (some st, if isWay st (nats ns) = false then [-1] else if closes st (nats ns) = false then [-6] else [0, turn st.here (nats ns)]) := rfl
    rw [e] at k
    refine ⟨_, rfl, ite2 (fun h1 => ?_) (fun h1 => ?_)⟩
    · have h1 : isWay st (nats ns) = false := by simpa using h1
      rw [if_pos h1] at k
      exact ⟨(by show 1 ≤ sizeLine; decide), fun p hp => k _ p ⟨hon, dx, (same_new hp) _ _ (s1 _ _ hA)⟩ (Kept.of (s1.trans (same_new hp))) (s1.free hp) upd_same⟩
    have h1 : isWay st (nats ns) = true := by simpa using h1
    have hst := isWay_steps hon hn h1
    have hl := isWay_len h1
    rw [nats_len] at hl
    rw [if_neg (by rw [h1]; exact Bool.noConfusion)] at k
    have hA1 := s1 _ _ hA
    refine ⟨_, rfl, a, C, dx, _, _, rfl, hA1, T.cl, T.n_right, pf_right _ _ _ _ _, _, rfl, a, C, dx, _, _, rfl, hA1, T.cl, T.n_up, pf_up _ _ _ _ _, _, rfl, _, _, b, ns, rfl, s1.seq hS, fun H2 s2 => ?_⟩
    rw [← closes_eq hst]
    have s12 := s1.trans s2
    refine ⟨_, rfl, ite2 (fun h2 => ?_) (fun h2 => ?_)⟩
    · have h2 : closes st (nats ns) = false := by simpa using h2
      rw [if_pos h2] at k
      exact ⟨(by show 1 ≤ sizeLine; decide), fun p hp => k _ p ⟨hon, dx, (same_new hp) _ _ (s12 _ _ hA)⟩ (Kept.of (s12.trans (same_new hp))) (s12.free hp) upd_same⟩
    have h2 : closes st (nats ns) = true := by simpa using h2
    rw [if_neg (by rw [h2]; exact Bool.noConfusion), ← turn_upr ns _ hst] at k
    have hA2 := s12 _ _ hA
    refine ⟨_, rfl, a, C, dx, _, _, rfl, hA2, T.cl, T.n_right, pf_right _ _ _ _ _, _, rfl, a, C, dx, _, _, rfl, hA2, T.cl, T.n_up, pf_up _ _ _ _ _, _, rfl, _, _, b, ns, rfl, s12.seq hS, by omega, fun H3 s3 => ?_⟩
    have s13 := s12.trans s3
    exact ⟨(by show 2 ≤ sizeLine; decide), fun p hp => k _ p ⟨hon, dx, (same_new hp) _ _ (s13 _ _ hA)⟩ (Kept.of (s13.trans (same_new hp))) (s13.free hp) upd_same⟩
/-! ### round -/
def spRound (K : PySem.W.Frag) (C : Addr) : Sp := fun vs H Q _ => ∃ (a b : Addr) (x y : Int) (st : State) (ns : List Int), vs = [.ref a, .int x, .int y, .ref b] ∧ 0 ≤ x ∧ 0 ≤ y ∧ PtrAt C H a (some st) ∧ SqL K H b (ns.map V.int) ∧ NonNeg ns ∧ After C a H (step (some st) (.round x.toNat y.toNat (nats ns))) Q
theorem sc_Pointer_round_square : FnScope ["self", "square_right", "square_up", "way"] ["self", "square_right", "square_up", "way"] (defScope s_Pointer_round_square) := ⟨rfl, rfl, rfl, by decide +kernel, rfl, by decide +kernel, by decide +kernel⟩
theorem ok_round {f : Addr} {fd : FuncData} (F : Fun K "round_square" "Pointer.round_square" s_Pointer_round_square f fd) (T : Txt K mg C) (G_is_way : Fn P w K mg base 2 "is_way" ["right", "up", "way"] (spWay K)) (G_is_loop : Fn P w K mg base 2 "is_loop" ["right", "up", "way"] (spLoop K))
    (G_upright_steps : Fn P w K mg base 1 "upright_steps" ["right", "up", "way"] (spUpr K)) (G_times_round : Fn P w K mg base 1 "times_round" ["square_right", "square_up", "uprights"] (spTimes K)) :
    FnOk P w K mg base CX0 3 f fd ["self", "square_right", "square_up", "way"] (spRound K C) := by
  refine F.ok sc_Pointer_round_square (fun vs H Q E h => ?_) (fun cdv A outer s H vs Q E hr h => ?_)
  · obtain ⟨a, b, x, y, st, ns, rfl, _⟩ := h
    rfl
  · obtain ⟨a, b, x, y, st, ns, rfl, hx0, hy0, ⟨hon, dx, hA⟩, hS, hn, k⟩ := h
    refine ⟨_, (pss_cons (ps_if (pt_not (pt_val (pe_fn G_is_way (hr.mono (by decide)) rfl (pa_cons (pe_fld (pv 0) rfl) (pa_cons (pe_fld (pv 0) rfl) (pa_cons (pv 3) pa_nil)))))) 
        (pss_one (ps_ret (pe_lst (pa_cons (pe_gi rfl T.g_NOT_LET) pa_nil)))) pss_nil)
      (pss_cons (ps_if (PW.pt (pw_or (pt_cmpR op_ge (pv 1) (pe_gi rfl T.g_EDGE) (nomark _)) (pw_or1 (pt_cmpR op_ge (pv 2) (pe_gi rfl T.g_EDGE) (nomark _))))) 
        (pss_one (ps_ret (pe_lst (pa_cons (pe_gi rfl T.g_NO_SUCH_SQUARE) pa_nil)))) pss_nil)
      (pss_cons (ps_if (pt_not (pt_val (pe_fn G_is_loop (hr.mono (by decide)) rfl (pa_cons (pe_fld (pv 0) rfl) (pa_cons (pe_fld (pv 0) rfl) (pa_cons (pv 3) pa_nil)))))) 
        (pss_one (ps_ret (pe_lst (pa_cons (pe_gi rfl T.g_NO_LOOP) pa_nil)))) pss_nil)
      (pss_one (ps_ret (pe_lst (pa_cons (pe_int) (pa_cons (pe_fn G_times_round (hr.mono (by decide)) rfl (pa_cons (pv 1) (pa_cons (pv 2) (pa_cons (pe_fn G_upright_steps (hr.mono (by decide)) rfl (pa_cons (pe_fld (pv 0) rfl) (pa_cons (pe_fld (pv 0) rfl) (pa_cons (pv 3) pa_nil)))) pa_nil)))) pa_nil)))))))), ?_⟩
    refine ⟨_, rfl, a, C, dx, _, _, rfl, hA, T.cl, T.n_right, pf_right _ _ _ _ _, _, rfl, a, C, dx, _, _, rfl, hA, T.cl, T.n_up, pf_up _ _ _ _ _, _, rfl, _, _, b, ns, rfl, hS, hn, fun H1 s1 => ?_⟩
    have ew := isWay_good st (nats ns) hon
    rw [nats_len] at ew
    rw [show (⟨st.here.x, st.here.y⟩ : Pt) = st.here from rfl, ← ew]
    have e : step (some st) (.round x.toNat y.toNat (nats ns)) = (some st, if isWay st (nats ns) = false then [-1] else if 8 ≤ x.toNat ∨ 8 ≤ y.toNat then [-2] else if closes st (nats ns) = false then [-6] else [0, Mu55.round_ st.here ⟨(x.toNat : Int), (y.toNat : Int)⟩ (nats ns)]) := rfl
    rw [e, Int.toNat_of_nonneg hx0, Int.toNat_of_nonneg hy0] at k
    refine ⟨_, rfl, ite2 (fun h1 => ?_) (fun h1 => ?_)⟩
    · have h1 : isWay st (nats ns) = false := by simpa using h1
      rw [if_pos h1] at k
      exact ⟨(by show 1 ≤ sizeLine; decide), fun p hp => k _ p ⟨hon, dx, (same_new hp) _ _ (s1 _ _ hA)⟩ (Kept.of (s1.trans (same_new hp))) (s1.free hp) upd_same⟩
    have h1 : isWay st (nats ns) = true := by simpa using h1
    have hst := isWay_steps hon hn h1
    have hl := isWay_len h1
    rw [nats_len] at hl
    rw [if_neg (by rw [h1]; exact Bool.noConfusion)] at k
    have hA1 := s1 _ _ hA
    have bad : (8 ≤ x.toNat ∨ 8 ≤ y.toNat) → ∀ p, H1 p = Option.none → Q (.ref p) (upd H1 p (.lst [.int (-2)])) := fun hb p hp => by
      rw [if_pos hb] at k
      exact k _ p ⟨hon, dx, (same_new hp) _ _ hA1⟩ (Kept.of (s1.trans (same_new hp))) (s1.free hp) upd_same
    refine ⟨_, rfl, _, _, rfl, rfl, _, rfl, ite2 (fun h2 => ?_) (fun h2 => ?_)⟩
    · have h2 : 8 ≤ x := of_decide_eq_true h2
      exact ⟨(by show 1 ≤ sizeLine; decide), bad (.inl (by omega))⟩
    have h2 : ¬ 8 ≤ x := fun z => h2 (decide_eq_true z)
    refine ⟨_, rfl, _, _, rfl, rfl, _, rfl, ite2 (fun h3 => ?_) (fun h3 => ?_)⟩
    · have h3 : 8 ≤ y := of_decide_eq_true h3
      exact ⟨(by show 1 ≤ sizeLine; decide), bad (.inr (by omega))⟩
    have h3 : ¬ 8 ≤ y := fun z => h3 (decide_eq_true z)
    rw [if_neg (by omega)] at k
    refine ⟨_, rfl, a, C, dx, _, _, rfl, hA1, T.cl, T.n_right, pf_right _ _ _ _ _, _, rfl, a, C, dx, _, _, rfl, hA1, T.cl, T.n_up, pf_up _ _ _ _ _, _, rfl, _, _, b, ns, rfl, s1.seq hS, fun H2 s2 => ?_⟩
    rw [← closes_eq hst]
    have s12 := s1.trans s2
    refine ⟨_, rfl, ite2 (fun h4 => ?_) (fun h4 => ?_)⟩
    · have h4 : closes st (nats ns) = false := by simpa using h4
      rw [if_pos h4] at k
      exact ⟨(by show 1 ≤ sizeLine; decide), fun p hp => k _ p ⟨hon, dx, (same_new hp) _ _ (s12 _ _ hA)⟩ (Kept.of (s12.trans (same_new hp))) (s12.free hp) upd_same⟩
    have h4 : closes st (nats ns) = true := by simpa using h4
    rw [if_neg (by rw [h4]; exact Bool.noConfusion), ← round_upr _ ns _ hst] at k
    have hA2 := s12 _ _ hA
    refine ⟨_, rfl, _, rfl, _, rfl, a, C, dx, _, _, rfl, hA2, T.cl, T.n_right, pf_right _ _ _ _ _, _, rfl, a, C, dx, _, _, rfl, hA2, T.cl, T.n_up, pf_up _ _ _ _ _, _, rfl, _, _, b, ns, rfl, s12.seq hS, by omega, fun H3 c s3 hc hR => ?_⟩
    refine ⟨_, _, c, _, rfl, hR, fun H4 s4 => ?_⟩
    have s14 := (s12.trans s3).trans s4
    exact ⟨(by show 2 ≤ sizeLine; decide), fun p hp => k _ p ⟨hon, dx, (same_new hp) _ _ (s14 _ _ hA)⟩ (Kept.of (s14.trans (same_new hp))) (s14.free hp) upd_same⟩
/-! ### squares -/
theorem sc_Pointer_squares : FnScope ["self", "way", "uprights", "many", "most", "square_right", "square_up", "often"] ["self", "way"] (defScope s_Pointer_squares) := ⟨rfl, rfl, rfl, by decide +kernel, rfl, by decide +kernel, by decide +kernel⟩
theorem ok_squares {f : Addr} {fd : FuncData} (F : Fun K "squares" "Pointer.squares" s_Pointer_squares f fd) (T : Txt K mg C) (G_is_way : Fn P w K mg base 2 "is_way" ["right", "up", "way"] (spWay K)) (G_is_loop : Fn P w K mg base 2 "is_loop" ["right", "up", "way"] (spLoop K))
    (G_upright_steps : Fn P w K mg base 1 "upright_steps" ["right", "up", "way"] (spUpr K)) (G_times_round : Fn P w K mg base 1 "times_round" ["square_right", "square_up", "uprights"] (spTimes K)) :
    FnOk P w K mg base CX0 3 f fd ["self", "way"] (spW K C .squares) := by
  refine F.ok sc_Pointer_squares (fun vs H Q E h => ?_) (fun cdv A outer s H vs Q E hr h => ?_)
  · obtain ⟨a, b, st, ns, rfl, _⟩ := h
    rfl
  · obtain ⟨a, b, st, ns, rfl, ⟨hon, dx, hA⟩, hS, hn, k⟩ := h
    refine ⟨_, (pss_cons (ps_if (pt_not (pt_val (pe_fn G_is_way (hr.mono (by decide)) rfl (pa_cons (pe_fld (pv 0) rfl) (pa_cons (pe_fld (pv 0) rfl) (pa_cons (pv 1) pa_nil)))))) 
        (pss_one (ps_ret (pe_lst (pa_cons (pe_gi rfl T.g_NOT_LET) pa_nil)))) pss_nil)
      (pss_cons (ps_if (pt_not (pt_val (pe_fn G_is_loop (hr.mono (by decide)) rfl (pa_cons (pe_fld (pv 0) rfl) (pa_cons (pe_fld (pv 0) rfl) (pa_cons (pv 1) pa_nil)))))) 
        (pss_one (ps_ret (pe_lst (pa_cons (pe_gi rfl T.g_NO_LOOP) pa_nil)))) pss_nil)
      (pss_cons (ps_set (i := 2) sc_Pointer_squares.nd rfl (Or.inl rfl) (pe_fn G_upright_steps (hr.mono (by decide)) rfl (pa_cons (pe_fld (pv 0) rfl) (pa_cons (pe_fld (pv 0) rfl) (pa_cons (pv 1) pa_nil)))))
      (pss_cons (ps_set (i := 3) sc_Pointer_squares.nd rfl (Or.inl rfl) (pe_int))
      (pss_cons (ps_set (i := 4) sc_Pointer_squares.nd rfl (Or.inl rfl) (pe_int))
      (pss_cons (ps_for PassesOwn.never rfl (pi_range1 rfl T.b_range (pa_cons (pe_gi rfl T.g_EDGE) pa_nil)) (pg_name (i := 5) sc_Pointer_squares.nd rfl (Or.inl rfl)) 
        (pss_one (ps_for PassesOwn.never rfl (pi_range1 rfl T.b_range (pa_cons (pe_gi rfl T.g_EDGE) pa_nil)) (pg_name (i := 6) sc_Pointer_squares.nd rfl (Or.inl rfl)) 
          (pss_cons (ps_set (i := 7) sc_Pointer_squares.nd rfl (Or.inl rfl) (pe_callB call_abs (by rfl) T.b_abs boot_abs (pa_cons (pe_fn G_times_round (hr.mono (by decide)) rfl (pa_cons (pv 5) (pa_cons (pv 6) (pa_cons (pv 2) pa_nil)))) pa_nil)))
          (pss_cons (ps_if (pt_cmpR op_gt (pv 7) (pe_int) (nomark _)) 
            (pss_one (ps_aug (i := 3) sc_Pointer_squares.nd rfl (Or.inl rfl) (pe_int) ip_add)) pss_nil)
          (pss_one (ps_set (i := 4) sc_Pointer_squares.nd rfl (Or.inl rfl) (pe_callB (call_max2 rfl) (by rfl) T.b_max boot_max (pa_cons (pv 4) (pa_cons (pv 7) pa_nil))))))))))
      (pss_one (ps_ret (pe_lst (pa_cons (pv 3) (pa_cons (pv 4) pa_nil))))))))))), ?_⟩
    refine ⟨_, rfl, a, C, dx, _, _, rfl, hA, T.cl, T.n_right, pf_right _ _ _ _ _, _, rfl, a, C, dx, _, _, rfl, hA, T.cl, T.n_up, pf_up _ _ _ _ _, _, rfl, _, _, b, ns, rfl, hS, hn, fun H1 s1 => ?_⟩
    have ew := isWay_good st (nats ns) hon
    rw [nats_len] at ew
    rw [show (⟨st.here.x, st.here.y⟩ : Pt) = st.here from rfl, ← ew]
    have e : step (some st) (.squares (nats ns)) = (some st, if isWay st (nats ns) = false then [-1] else if closes st (nats ns) = false then [-6] else Mu55.nums [(Mu55.within_ st.here (nats ns)).length, Mu55.often st.here (nats ns)]) := rfl
    rw [e] at k
    refine ⟨_, rfl, ite2 (fun h1 => ?_) (fun h1 => ?_)⟩
    · have h1 : isWay st (nats ns) = false := by simpa using h1
      rw [if_pos h1] at k
      exact ⟨(by show 1 ≤ sizeLine; decide), fun p hp => k _ p ⟨hon, dx, (same_new hp) _ _ (s1 _ _ hA)⟩ (Kept.of (s1.trans (same_new hp))) (s1.free hp) upd_same⟩
    have h1 : isWay st (nats ns) = true := by simpa using h1
    have hst := isWay_steps hon hn h1
    have hl := isWay_len h1
    rw [nats_len] at hl
    rw [if_neg (by rw [h1]; exact Bool.noConfusion)] at k
    have hA1 := s1 _ _ hA
    refine ⟨_, rfl, a, C, dx, _, _, rfl, hA1, T.cl, T.n_right, pf_right _ _ _ _ _, _, rfl, a, C, dx, _, _, rfl, hA1, T.cl, T.n_up, pf_up _ _ _ _ _, _, rfl, _, _, b, ns, rfl, s1.seq hS, fun H2 s2 => ?_⟩
    rw [← closes_eq hst]
    have s12 := s1.trans s2
    refine ⟨_, rfl, ite2 (fun h4 => ?_) (fun h4 => ?_)⟩
    · have h4 : closes st (nats ns) = false := by simpa using h4
      rw [if_pos h4] at k
      exact ⟨(by show 1 ≤ sizeLine; decide), fun p hp => k _ p ⟨hon, dx, (same_new hp) _ _ (s12 _ _ hA)⟩ (Kept.of (s12.trans (same_new hp))) (s12.free hp) upd_same⟩
    have h4 : closes st (nats ns) = true := by simpa using h4
    rw [if_neg (by rw [h4]; exact Bool.noConfusion), within_len, often_bigs] at k
    have hA2 := s12 _ _ hA
    refine ⟨_, rfl, a, C, dx, _, _, rfl, hA2, T.cl, T.n_right, pf_right _ _ _ _ _, _, rfl, a, C, dx, _, _, rfl, hA2, T.cl, T.n_up, pf_up _ _ _ _ _, _, rfl, _, _, b, ns, rfl, s12.seq hS, by omega, fun H3 c s3 hc hR => ?_⟩
    have s13 := s12.trans s3
    -- the two loops
    generalize hg : (fun q : Nat × Nat => Mu55.round_ st.here ⟨(q.1 : Int), (q.2 : Int)⟩ (nats ns)) = g at k
    refine ⟨8, rfl, (by decide), (by decide), for_range (lo := 0) (n := 8)
      (fun i σ H' => ∃ (v1 v2 v3 : Option V), σ = [some (.ref a), some (.ref b), some (.ref c), some (.int (cnt g (sqs i 0) : Nat)), some (.int (big g (sqs i 0) : Nat)), v1, v2, v3] ∧ Same H3 H')
      ⟨none, none, none, rfl, same_refl _⟩ ?_ ?_⟩
    · rintro i σ H' hi ⟨v1, v2, v3, rfl, s5⟩
      refine ⟨8, rfl, (by decide), (by decide), for_range (lo := 0) (n := 8)
        (fun j σ H' => ∃ (v2 v3 : Option V), σ = [some (.ref a), some (.ref b), some (.ref c), some (.int (cnt g (sqs i j) : Nat)), some (.int (big g (sqs i j) : Nat)), some (.int (0 + (i : Int))), v2, v3] ∧ Same H3 H')
        ⟨v2, v3, rfl, s5⟩ ?_ ?_⟩
      · rintro j σ H' hj ⟨v2, v3, rfl, s6⟩
        refine ⟨_, rfl, _, rfl, _, rfl, _, _, c, _, rfl, hR.same s6, fun H7 s7 => ?_⟩
        have er : (List.map (fR (0 + (i : Int)) (0 + (j : Int))) (upr st.here.x st.here.y ns)).sum = g (i, j) := by
          rw [Int.zero_add, Int.zero_add, ← hg]
          exact round_upr ⟨(i : Int), (j : Int)⟩ ns st.here hst
        rw [er]
        have ec := cnt_snoc g (sqs i j) (i, j)
        have eb := big_snoc g (sqs i j) (i, j)
        rw [← sqs_succ] at ec eb
        generalize g (i, j) = z at ec eb ⊢
        have eB : ((big g (sqs i (j + 1)) : Nat) : Int) = if (if z < 0 then -z else z) > ((big g (sqs i j) : Nat) : Int) then (if z < 0 then -z else z) else ((big g (sqs i j) : Nat) : Int) := by
          rw [eb]
          split <;> split <;> omega
        refine ⟨_, rfl, _, rfl, _, _, rfl, rfl, _, rfl, ite2 (fun h5 => ?_) (fun h5 => ?_)⟩
        · have h5 : 0 < (if z < 0 then -z else z) := of_decide_eq_true h5
          have eC : ((cnt g (sqs i (j + 1)) : Nat) : Int) = ((cnt g (sqs i j) : Nat) : Int) + 1 := by
            rw [ec, if_neg (by intro e0; rw [e0] at h5; exact absurd h5 (by decide))]
            omega
          refine ⟨_, rfl, _, _, rfl, rfl, _, rfl, _, rfl, _, _, rfl, some (.int (0 + (j : Int))), some (.int (if z < 0 then -z else z)), ?_, s6.trans s7⟩
          rw [eC, eB]
          rfl
        · have h5 : ¬ 0 < (if z < 0 then -z else z) := fun q => h5 (decide_eq_true q)
          have eC : ((cnt g (sqs i (j + 1)) : Nat) : Int) = ((cnt g (sqs i j) : Nat) : Int) := by
            have z0 : z = 0 := by
              split at h5 <;> omega
            rw [ec, if_pos z0]
            rfl
          refine ⟨_, rfl, _, rfl, _, _, rfl, some (.int (0 + (j : Int))), some (.int (if z < 0 then -z else z)), ?_, s6.trans s7⟩
          rw [eC, eB]
          rfl
      · rintro σ H' ⟨v2, v3, rfl, s6⟩
        show ∃ _ _ _, _
        rw [sqs_next]
        exact ⟨_, _, _, rfl, s6⟩
    · rintro σ H' ⟨v1, v2, v3, rfl, s6⟩
      have s16 := s13.trans s6
      refine ⟨_, rfl, _, rfl, (by show 2 ≤ sizeLine; decide), fun p hp => k _ p ⟨hon, dx, (same_new hp) _ _ (s16 _ _ hA)⟩ (Kept.of (s16.trans (same_new hp))) (s16.free hp) upd_same⟩
end
end WA
end
section
set_option Elab.async false
set_option linter.all false
set_option maxRecDepth 100000
namespace WA
open Mu55
/-! ### corners: what lies at the paper's edge is not gone round -/
theorem good_cons {p : Pt} {s : Nat} {w : Way} (h : good p (s :: w) = true) : s < 4 ∧ onPaper (next p s) = true ∧ good (next p s) w = true := by
  unfold good at h
  rw [Bool.and_eq_true, Bool.and_eq_true] at h
  exact ⟨of_decide_eq_true h.1, h.2.1, h.2.2⟩
theorem on_pt {p : Pt} (h : onPaper p = true) : 0 ≤ p.x ∧ p.x ≤ 8 ∧ 0 ≤ p.y ∧ p.y ≤ 8 := by
  unfold onPaper at h
  rw [Bool.and_eq_true, Bool.and_eq_true, Bool.and_eq_true, decide_eq_true_iff, decide_eq_true_iff, decide_eq_true_iff, decide_eq_true_iff] at h
  exact h
theorem corners_head (p : Pt) (w : Way) : corners p w = p :: (corners p w).tail := by cases w <;> rfl
theorem corners_cons (p : Pt) (s : Nat) (w : Way) : (corners p (s :: w)).tail = next p s :: (corners (next p s) w).tail := by
  show corners (next p s) w = _
  exact corners_head _ _
theorem pt_ne {p q : Pt} (h : p ≠ q) : ¬ (p.x = q.x ∧ p.y = q.y) := fun e => h (by
  cases p
  cases q
  obtain ⟨e1, e2⟩ := e
  cases e1
  cases e2
  rfl)
theorem step4 {s : Nat} (h : s < 4) : s = 0 ∨ s = 1 ∨ s = 2 ∨ s = 3 := by omega
theorem round_cons (p q : Pt) (s : Nat) (w : Way) : round_ p q (s :: w) = (if s = 2 ∧ p.y = q.y ∧ q.x < p.x then 1 else if s = 3 ∧ p.y - 1 = q.y ∧ q.x < p.x then -1 else 0) + round_ (next p s) q w := rfl
/-- the way's change of f tells how often q is gone round -/
theorem round_by (q : Pt) (f : Pt → Int) (hf : ∀ (p : Pt) (s : Nat), s < 4 → onPaper p = true → onPaper (next p s) = true → p ≠ q → next p s ≠ q →
      (if s = 2 ∧ p.y = q.y ∧ q.x < p.x then 1 else if s = 3 ∧ p.y - 1 = q.y ∧ q.x < p.x then -1 else 0) = f (next p s) - f p) :
    ∀ (w : Way) (p : Pt), onPaper p = true → good p w = true → (∀ c ∈ corners p w, c ≠ q) → round_ p q w = f (ending p w) - f p
  | [], p, _, _, _ => by
    show (0 : Int) = f p - f p
    omega
  | s :: w, p, ho, hg, hc => by
    obtain ⟨h4, h1, h2⟩ := good_cons hg
    have hn : next p s ≠ q := hc _ (List.mem_cons_of_mem _ (by rw [corners_head]; exact List.mem_cons_self))
    have hp : p ≠ q := hc _ List.mem_cons_self
    have ih := round_by q f hf w (next p s) h1 h2 (fun c z => hc c (List.mem_cons_of_mem _ z))
    rw [round_cons, ih, hf p s h4 ho h1 hp hn, ending_cons]
    omega
theorem edge_zero {p q : Pt} {w : Way} (ho : onPaper p = true) (hg : good p w = true) (hl : ending p w = p) (hc : ∀ c ∈ corners p w, c ≠ q) (he : q.x = 0 ∨ q.x = 8 ∨ q.y = 0 ∨ q.y = 8) : round_ p q w = 0 := by
  rcases he with he | he | he | he
  · rw [round_by q (fun p => if q.y < p.y then 1 else 0) (fun p s h4 h1 h2 h5 h6 => ?_) w p ho hg hc, hl]
    · omega
    · have a1 := on_pt h1
      have a2 := on_pt h2
      have a5 := pt_ne h5
      have a6 := pt_ne h6
      rcases step4 h4 with rfl | rfl | rfl | rfl
      · rw [next0] at a2 a6 ⊢
        simp only [true_and] at a2 a6 ⊢
        repeat' split
        all_goals omega
      · rw [next1] at a2 a6 ⊢
        simp only [true_and] at a2 a6 ⊢
        repeat' split
        all_goals omega
      · rw [next2] at a2 a6 ⊢
        simp only [true_and] at a2 a6 ⊢
        repeat' split
        all_goals omega
      · rw [next3] at a2 a6 ⊢
        simp only [true_and] at a2 a6 ⊢
        repeat' split
        all_goals omega
  · rw [round_by q (fun p => 0) (fun p s h4 h1 h2 h5 h6 => ?_) w p ho hg hc]
    · omega
    · have a1 := on_pt h1
      repeat' split
      all_goals omega
  · rw [round_by q (fun p => if p.y = 0 ∧ q.x < p.x then -1 else 0) (fun p s h4 h1 h2 h5 h6 => ?_) w p ho hg hc, hl]
    · omega
    · have a1 := on_pt h1
      have a2 := on_pt h2
      have a5 := pt_ne h5
      have a6 := pt_ne h6
      rcases step4 h4 with rfl | rfl | rfl | rfl
      · rw [next0] at a2 a6 ⊢
        simp only [true_and] at a2 a6 ⊢
        repeat' split
        all_goals omega
      · rw [next1] at a2 a6 ⊢
        simp only [true_and] at a2 a6 ⊢
        repeat' split
        all_goals omega
      · rw [next2] at a2 a6 ⊢
        simp only [true_and] at a2 a6 ⊢
        repeat' split
        all_goals omega
      · rw [next3] at a2 a6 ⊢
        simp only [true_and] at a2 a6 ⊢
        repeat' split
        all_goals omega
  · rw [round_by q (fun p => 0) (fun p s h4 h1 h2 h5 h6 => ?_) w p ho hg hc]
    · omega
    · have a1 := on_pt h1
      have a2 := on_pt h2
      rcases step4 h4 with rfl | rfl | rfl | rfl
      · repeat' split
        all_goals omega
      · repeat' split
        all_goals omega
      · rw [next2] at a2
        simp only at a2
        repeat' split
        all_goals omega
      · rw [next3] at a2
        simp only at a2
        repeat' split
        all_goals omega
/-! ### the program's order of the inner corners -/
def ins (i j : Nat) : List (Nat × Nat) := ((List.range i).flatMap fun a => (List.range 7).map fun b => (a + 1, b + 1)) ++ (List.range j).map fun b => (i + 1, b + 1)
theorem ins_succ (i j : Nat) : ins i (j + 1) = ins i j ++ [(i + 1, j + 1)] := by
  unfold ins
  rw [List.range_succ (n := j), List.map_append, List.append_assoc]
  rfl
theorem ins_next (i : Nat) : ins (i + 1) 0 = ins i 7 := by
  unfold ins
  rw [List.range_succ (n := i), List.flatMap_append]
  simp
def all2 : List (Nat × Nat) := (List.range 9).flatMap fun j => (List.range 9).map fun i => (i, j)
def edg : List (Nat × Nat) := all2.filter fun q => decide (q.1 = 0) || (decide (q.1 = 8) || (decide (q.2 = 0) || decide (q.2 = 8)))
theorem all2_perm : all2.Perm (ins 7 0 ++ edg) := by decide +kernel
theorem allCorners_eq : allCorners = all2.map fun q => (⟨(q.1 : Int), (q.2 : Int)⟩ : Pt) := by decide +kernel
theorem edg_on {q : Nat × Nat} (h : q ∈ edg) : q.1 = 0 ∨ q.1 = 8 ∨ q.2 = 0 ∨ q.2 = 8 := by
  have := (List.mem_filter.mp h).2
  simpa using this
def isIn (p : Pt) (w : Way) (q : Nat × Nat) : Bool := !((corners p w).contains (⟨(q.1 : Int), (q.2 : Int)⟩ : Pt)) && round_ p ⟨(q.1 : Int), (q.2 : Int)⟩ w != 0
def cin (p : Pt) (w : Way) (l : List (Nat × Nat)) : Nat := (l.filter (isIn p w)).length
theorem cin_snoc (p : Pt) (w : Way) (l : List (Nat × Nat)) (q : Nat × Nat) : cin p w (l ++ [q]) = cin p w l + (if isIn p w q = true then 1 else 0) := by
  unfold cin
  rw [List.filter_append, List.length_append]
  congr 1
  by_cases h : isIn p w q = true
  · rw [if_pos h]
    simp [h]
  · rw [if_neg h]
    simp [h]
theorem pt_beq_true {a b : Pt} : (a == b) = true ↔ a = b := by
  cases a with
  | mk a1 a2 =>
    cases b with
    | mk b1 b2 =>
      rw [pt_beq, decide_eq_true_iff]
      constructor
      · rintro ⟨rfl, rfl⟩
        rfl
      · intro h
        cases h
        exact ⟨rfl, rfl⟩
instance : LawfulBEq Pt where
  eq_of_beq h := pt_beq_true.mp h
  rfl := pt_beq_true.mpr rfl
theorem inner_len {p : Pt} {w : Way} (ho : onPaper p = true) (hg : good p w = true) (hl : ending p w = p) : (inner p w).length = cin p w (ins 7 0) := by
  have e0 : (edg.filter (isIn p w)) = [] := by
    rw [List.filter_eq_nil_iff]
    intro q hq hi
    unfold isIn at hi
    rw [Bool.and_eq_true] at hi
    obtain ⟨h1, h2⟩ := hi
    have hc : ∀ c ∈ corners p w, c ≠ (⟨(q.1 : Int), (q.2 : Int)⟩ : Pt) := by
      intro c hc e
      subst e
      rw [List.contains_iff_mem.mpr hc] at h1
      cases h1
    have hz := edge_zero (q := ⟨(q.1 : Int), (q.2 : Int)⟩) ho hg hl hc (by
      rcases edg_on hq with e | e | e | e
      · exact .inl (by show (q.1 : Int) = 0; omega)
      · exact .inr (.inl (by show (q.1 : Int) = 8; omega))
      · exact .inr (.inr (.inl (by show (q.2 : Int) = 0; omega)))
      · exact .inr (.inr (.inr (by show (q.2 : Int) = 8; omega))))
    rw [hz] at h2
    cases h2
  unfold cin inner
  rw [allCorners_eq, List.filter_map, List.length_map]
  have e1 := (all2_perm.filter (isIn p w)).length_eq
  rw [List.filter_append, List.length_append, e0, List.length_nil, Nat.add_zero] at e1
  exact e1
/-! ### each corner once -/
def vis (acc : List Pt) : List Pt → List Pt
  | [] => acc
  | c :: cs => vis (if acc.contains c = true then acc else acc ++ [c]) cs
theorem dups_loop : ∀ (l bs : List Pt), List.eraseDupsBy.loop (· == ·) l bs = vis bs.reverse l
  | [], bs => by simp [List.eraseDupsBy.loop, vis]
  | c :: cs, bs => by
    unfold List.eraseDupsBy.loop vis
    have e : bs.any (fun x => c == x) = bs.reverse.contains c := by
      rw [List.contains_eq_any_beq, List.any_reverse]
    cases h : bs.any (fun x => c == x) with
    | true =>
      rw [← e, h, if_pos rfl]
      exact dups_loop cs bs
    | false =>
      rw [← e, h, if_neg (by exact Bool.false_ne_true)]
      have := dups_loop cs (c :: bs)
      rw [List.reverse_cons] at this
      exact this
theorem dups_vis (l : List Pt) : l.eraseDups = vis [] l := dups_loop l []
theorem vis_mem (q : Pt) : ∀ (l acc : List Pt), q ∈ vis acc l ↔ q ∈ acc ∨ q ∈ l
  | [], acc => by simp [vis]
  | c :: cs, acc => by
    unfold vis
    rw [vis_mem q cs]
    by_cases h : acc.contains c = true
    · rw [if_pos h]
      have hm : c ∈ acc := List.contains_iff_mem.mp h
      constructor
      · rintro (z | z)
        · exact .inl z
        · exact .inr (List.mem_cons_of_mem _ z)
      · rintro (z | z)
        · exact .inl z
        · rcases List.mem_cons.mp z with rfl | z
          · exact .inl hm
          · exact .inr z
    · rw [if_neg h, List.mem_append, List.mem_singleton, List.mem_cons, or_assoc]
theorem vis_len : ∀ (l acc : List Pt), (vis acc l).length ≤ acc.length + l.length
  | [], acc => Nat.le_refl _
  | c :: cs, acc => by
    unfold vis
    have := vis_len cs (if acc.contains c = true then acc else acc ++ [c])
    have h2 : (if acc.contains c = true then acc else acc ++ [c]).length ≤ acc.length + 1 := by
      split
      · omega
      · simp
    rw [List.length_cons]
    omega
theorem corners_len : ∀ (w : Way) (p : Pt), (corners p w).length = w.length + 1
  | [], _ => rfl
  | s :: w, p => by
    show (corners (next p s) w).length + 1 = _
    rw [corners_len w, List.length_cons]
/-! ### straight -/
def sstep (l : Way) (s : Nat) : Way := match l with
  | t :: r => if s = back t then r else s :: t :: r
  | [] => [s]
theorem straight_eq (w : Way) : straight w = (w.foldl sstep []).reverse := rfl
theorem back_back {s t : Nat} (hs : s < 4) (ht : t < 4) : s = back t ↔ t = back s := by
  unfold back
  rcases step4 hs with rfl | rfl | rfl | rfl <;> rcases step4 ht with rfl | rfl | rfl | rfl <;> decide
theorem sstep_lt {l : Way} {s : Nat} (hl : ∀ t ∈ l, t < 4) (hs : s < 4) : ∀ t ∈ sstep l s, t < 4 := by
  unfold sstep
  cases l with
  | nil =>
    intro t ht
    rw [List.mem_singleton.mp ht]
    exact hs
  | cons a r =>
    simp only
    split
    · exact fun t ht => hl t (List.mem_cons_of_mem _ ht)
    · intro t ht
      rcases List.mem_cons.mp ht with rfl | ht
      · exact hs
      · exact hl t ht
theorem sstep_len (l : Way) (s : Nat) : (sstep l s).length ≤ l.length + 1 := by
  unfold sstep
  cases l with
  | nil => simp
  | cons a r =>
    simp only
    split <;> simp <;> omega
/-! ### shortest -/
theorem root_least : ∀ n < 65, n ≤ root n * root n ∧ ∀ j < root n, j * j < n := by decide +kernel
theorem root_of {n m : Nat} (hn : n < 65) (h1 : n ≤ m * m) (h2 : ∀ j < m, j * j < n) : m = root n := by
  obtain ⟨r1, r2⟩ := root_least n hn
  rcases Nat.lt_trichotomy m (root n) with h | h | h
  · have := r2 m h
    omega
  · exact h
  · have := h2 _ h
    omega
theorem root_pos {n : Nat} (hn : n < 65) (h0 : n ≠ 0) : 0 < root n := by
  obtain ⟨r1, r2⟩ := root_least n hn
  rcases Nat.eq_zero_or_pos (root n) with h | h
  · rw [h] at r1
    omega
  · exact h
theorem root_le : ∀ n < 65, root n ≤ 8 := by decide +kernel
theorem shortest_rest {n : Nat} (h0 : n ≠ 0) (hr : n % root n ≠ 0) : shortest n = List.replicate (root n) 0 ++ (List.replicate (n / root n) 2 ++ (List.replicate (root n - n % root n) 1 ++ (2 :: (List.replicate (n % root n) 1 ++ List.replicate (n / root n + 1) 3)))) := by
  unfold shortest
  simp only
  rw [if_neg h0, if_neg hr]
theorem shortest_full {n : Nat} (h0 : n ≠ 0) (hr : n % root n = 0) : shortest n = List.replicate (root n) 0 ++ (List.replicate (n / root n) 2 ++ (List.replicate (root n) 1 ++ List.replicate (n / root n) 3)) := by
  unfold shortest
  simp only
  rw [if_neg h0, if_pos hr]
theorem shortest_zero : shortest 0 = [] := rfl
end WA
end
section
set_option Elab.async false
set_option linter.all false
set_option maxRecDepth 100000
namespace WA
open PySem PySem.Spec PyProof.Rows L2
section
variable {prog : Program} {w : World} {A : Around} {E : Value → Shared → Prop} {s : Shared} {K : Type} [DecidableEq K] {knd : HeapKind prog w K}
/-- how many keys a dict has whose keys lie in the heap -/
theorem size_heap {d : Addr} {xs : List (K × Addr × Value)} {Q : Value → Shared → Prop} (hd : (d == sysModules) = false) (hm : s.heap.DictOfH knd d xs) (h : Q (.int xs.length s.toks) { s with toks := s.toks + 1 }) :
    wpAny (model prog w) A (call (.builtin "dict.__len__") [.ref d]) Q E s := by
  have hsz : ∀ es : Array DictEntry, es.toList = xs.map (entryOfKey knd) → (es.size : Int) + ((0 : Nat) : Int) = xs.length := fun es he => by rw [size_of_entries he]; exact Int.add_zero _
  have body : MeetsIn prog w (Builtin.«dict.__len__» ⟨[.ref d], []⟩) (fun _ R s => s.heap.DictOfH knd d xs ∧ R (.ok (.ret (.int xs.length s.toks))) { s with toks := s.toks + 1 }) :=
    .of_wp fun A R s ⟨⟨o, es, ep, ho, hc, hdat, he, _⟩, q⟩ => by
      have read : ∀ (Z : Nat → Shared → Prop) (E' : Value → Shared → Prop), Z es.size s → wpAny (model prog w) A.in1 (dictSize d) Z E' s := fun Z E' hZ => by
        unfold dictSize
        exact wpAny_bind (wpAny_dictEntries ho hdat (wpAny_pure hZ))
      refine wpAny_bind (m := dictSize d) (read _ _ ?_)
      refine wpAny_bind (m := Builtin.Dict.pendingCount d) (wpAny_pendingCount_other hd (wpAny_ret_mkInt ?_))
      rw [hsz es he]
      exact q
  exact call_meetsIn F.slot_dict_len hm.typeIs F.entry_dict_len (F.args_dict_len_1 _) body ⟨hm, h⟩
end
section
variable {X : Cx}
theorem call_lenT : CallR X (.builtin "len") (fun xs H Q => ∃ a kvs, xs = [V.ref a] ∧ H a = some (.dT kvs) ∧ Q (.int kvs.length) H) := by
  intro pins s σ H xs us Q I r h
  obtain ⟨a, kvs, rfl, ha, q⟩ := h
  obtain ⟨u, rfl, ru⟩ := vals1 r
  cases ru
  obtain ⟨z, hd, ys, rel, dd⟩ := dt_of I.hok ha
  have hl : kvs.length = ys.length := Paired.length rel
  rw [sizeLine_eq] at z
  exact call_len_slot (n := (kvs.length : Nat)) dd.typeIs F.slot_dict_len (fun Q' q' => size_heap hd dd (by rw [← hl]; exact q')) (by omega) (by omega) ⟨.int kvs.length, H, I.tok _, ⟨_, rfl⟩, q⟩
/-- {k: v} with a tuple as its key -/
def tDisp1T (tk tv : TE) : TE := fun σ H Q => ∀ p, H p = none → tk σ (upd H p (.dT [])) fun x H1 => tv σ H1 fun y H2 => H2 p = some (.dT []) ∧ ∃ (ks : List Key) (b : Addr), x = .ref b ∧ H2 b = some (.tup (ks.map kV)) ∧ Q (.ref p) (upd H2 p (.dT (putK [] ks y)))
theorem pe_disp1T {k v : Expr} {tk tv : TE} {pos : Pos} (hu : X.A.units + 1 < cLine) (hk : PE X k tk) (hv : PE X v tv) : PE X (.Dict [some k] [v] pos) (tDisp1T tk tv) := by
  intro pins s σ H Q I q
  have hn := I.hok.fresh (Nat.le_refl s.heap.objs.size)
  have I1 := I.laid (a := s.heap.objs.size) (o := .dT []) (h' := s.heap.push { cls := .type "dict", data := .dict #[] }) (t' := s.toks) (fun _ _ q => Heap.get?_push_of_some _ q) (Nat.le_refl _) (dt_empty s.heap I.big)
  rw [arm_eval_Dict, zip_pairTrees [some k] [v] X.env pos rfl rfl, dictDisplay_pairs (pairTrees [some k] [v] X.env pos) (by intro z; cases z) (by show 1 < 17; decide)]
  refine wpAny_bind (wpAny_standAt (wpAny_bind ?_))
  unfold subDict
  refine wpAny_bind (wpAny_alloc (wpAny_bind (wpAny_holding ?_)))
  rw [if_pos (by show 1 ≤ 15; decide)]
  refine wpAny_bind (pairTrees_cons_walk (thn (hk pins _ σ _ _ I1 (q _ hn)) fun u s1 ⟨x, H1, I1, rx, q1⟩ => thn (hv pins s1 σ H1 _ I1 q1) fun w2 s2 ⟨y, H2, I2, ry, e, ks, b, ex, eb, q2⟩ => pairTrees_nil_walk ?_))
  subst ex
  obtain rfl : u = Value.ref b := rx
  obtain ⟨z, hd, xs, rel, dd⟩ := dt_of I2.hok e
  cases rel
  have hroom : (tupleKind (mixKind X.prog X.w)).room X.A := Nat.lt_of_le_of_lt (Nat.le_succ _) hu
  refine wpAny_holding ?_
  rw [List.forIn_cons]
  refine wpAny_bind (wpAny_bind (wpAny_bind (wpAny_dictSet_heap (hsz := by rw [sizeLine_eq]; decide) hroom (key_of I2.hok eb) dd fun h' dd' hs => wpAny_pure ?_)))
  dsimp only
  rw [List.forIn_nil]
  refine wpAny_pure (wpAny_pure (wpAny_pure (wpAny_pure ?_)))
  obtain ⟨o, es, ep, hq, h2, h3, h4, _, h5⟩ := dd'
  refine ⟨.ref s.heap.objs.size, _, d_write (ob := .dT (putK [] ks y)) I2 (by rw [e]; exact True.intro) hs ⟨o, hq⟩ ⟨?_, hd, _, KT.keeps (KT.put (kvs := []) (xs := []) (Paired.nil) ks eb ry) fun c ys ec => ?_, o, es, ep, hq, h2, h3, h4, h5⟩, rfl, q2⟩
  · show 1 ≤ sizeLine
    rw [sizeLine_eq]
    decide
  · rw [upd_ne (ne_of ec e (fun z => nomatch z))]
    exact ec
end
end WA
end
section
set_option Elab.async false
set_option linter.all false
set_option maxRecDepth 100000
set_option maxHeartbeats 2000000
namespace WA
open PySem PySem.Spec PyProof.Rows L2
open Mu55 (Pt onPaper State isWay closes ending turn step)
/-! ### new lists -/
/-- t makes a list of xs in each heap that has grown out of H -/
def Mk1 (t : TE) (σ : L2.St) (H : Hp) (xs : List V) : Prop := ∀ H1, Same H H1 → ∀ Q : VK, (∀ (H' : Hp) (p : Addr), Same H1 H' → H' p = some (.lst xs) → Q (.ref p) H') → t σ H1 Q
/-- .. a new one -/
def MkN (t : TE) (σ : L2.St) (H : Hp) (xs : List V) : Prop := ∀ H1, Same H H1 → ∀ Q : VK, (∀ (H' : Hp) (p : Addr), Same H1 H' → H1 p = Option.none → H' p = some (.lst xs) → Q (.ref p) H') → t σ H1 Q
/-- t gives v in each heap that has grown out of H -/
def Ev (t : TE) (σ : L2.St) (H : Hp) (v : V) : Prop := ∀ H1, Same H H1 → ∀ Q : VK, Q v H1 → t σ H1 Q
theorem MkN.mk {t : TE} {σ : L2.St} {H : Hp} {xs : List V} (h : MkN t σ H xs) : Mk1 t σ H xs := fun H1 s Q k => h H1 s Q fun H' p s' _ hp => k H' p s' hp
theorem mk_var {i : Nat} {σ : L2.St} {H : Hp} {p : Addr} {xs : List V} (hs : σ[i]? = some (some (.ref p))) (hp : H p = some (.lst xs)) : Mk1 (tVar i) σ H xs := fun H1 s Q k => ⟨_, hs, k H1 p (same_refl _) (s _ _ hp)⟩
theorem mk_lst1 {t : TE} {σ : L2.St} {H : Hp} {v : V} (h : Ev t σ H v) : MkN (tLst (tCons t tNil)) σ H [v] := fun H1 s Q k => h H1 s _ ⟨(by show 1 ≤ sizeLine; decide), fun p hp => k _ p (same_new hp) hp upd_same⟩
theorem mk_rep {t tk : TE} {σ : L2.St} {H : Hp} {v : V} {k : Int} (h : Mk1 t σ H [v]) (hk : Ev tk σ H (.int k)) (h1 : k ≤ 1000) (h0 : 0 ≤ k) : MkN (tOp rRep t tk) σ H (List.replicate k.toNat v) := fun H1 s Q q =>
  h H1 s _ fun H2 l s2 hl => hk H2 (s.trans s2) _ ⟨l, k, [v], rfl, rfl, hl, by omega, by omega, (by rw [sizeLine_eq, List.length_singleton]; omega), fun p hp => q _ p (s2.trans (same_new hp)) (s2.free hp) (by rw [upd_same, List.flatten_replicate_singleton])⟩
theorem mk_cat {ta tb : TE} {σ : L2.St} {H : Hp} {xs ys : List V} (ha : Mk1 ta σ H xs) (hb : Mk1 tb σ H ys) (hl : xs.length + ys.length ≤ 10000) : MkN (tOp rCat ta tb) σ H (xs ++ ys) := fun H1 s Q q =>
  ha H1 s _ fun H2 l s2 h2 => hb H2 (s.trans s2) _ fun H3 b s3 h3 => ⟨l, b, xs, ys, rfl, rfl, s3 _ _ h2, h3, (by rw [sizeLine_eq]; omega), fun p hp => q _ p ((s2.trans s3).trans (same_new hp)) ((s2.trans s3).free hp) upd_same⟩
theorem mk_use {t : TE} {σ : L2.St} {H : Hp} {xs : List V} {Q : VK} (h : MkN t σ H xs) (k : ∀ (H' : Hp) (p : Addr), Same H H' → H p = Option.none → H' p = some (.lst xs) → Q (.ref p) H') : t σ H Q := h H (same_refl _) Q k
theorem ev_add {ta tb : TE} {σ : L2.St} {H : Hp} {i j : Int} (h1 : Ev ta σ H (.int i)) (h2 : Ev tb σ H (.int j)) : Ev (tOp (rI0 fun i j => .int (i + j)) ta tb) σ H (.int (i + j)) := fun H1 s Q q => h1 H1 s _ (h2 H1 s _ ⟨_, _, rfl, rfl, q⟩)
theorem ev_sub {ta tb : TE} {σ : L2.St} {H : Hp} {i j : Int} (h1 : Ev ta σ H (.int i)) (h2 : Ev tb σ H (.int j)) : Ev (tOp (rI0 fun i j => .int (i - j)) ta tb) σ H (.int (i - j)) := fun H1 s Q q => h1 H1 s _ (h2 H1 s _ ⟨_, _, rfl, rfl, q⟩)
theorem ev_c {v : V} {σ : L2.St} {H : Hp} : Ev (tC v) σ H v := fun _ _ _ q => q
theorem ev_var {i : Nat} {σ : L2.St} {H : Hp} {v : V} (hs : σ[i]? = some (some v)) : Ev (tVar i) σ H v := fun _ _ _ q => ⟨_, hs, q⟩
/-! ### tables of corners -/
def kP (c : Pt) : List Key := [Sum.inl c.x, Sum.inl c.y]
def tab (l : List Pt) : List (List Key × V) := l.map fun c => (kP c, V.bl true)
theorem kP_inj {a b : Pt} (h : kP a = kP b) : a = b := by
  cases a
  cases b
  unfold kP at h
  cases h
  rfl
theorem tab_any (l : List Pt) (c : Pt) : ((tab l).any fun kv => decide (kv.1 = kP c)) = l.contains c := by
  induction l with
  | nil => rfl
  | cons a r ih =>
    show (decide (kP a = kP c) || (tab r).any fun kv => decide (kv.1 = kP c)) = _
    rw [ih, List.contains_cons]
    congr 1
    by_cases e : a = c
    · subst e
      rw [decide_eq_true rfl, beq_self_eq_true]
    · rw [decide_eq_false (fun z => e (kP_inj z)), beq_eq_false_iff_ne.mpr (fun z => e z.symm)]
theorem tab_get (l : List Pt) (c : Pt) : (valV (tab l) (kP c)).isSome = l.contains c := by
  rw [← valV_any, tab_any]
theorem tab_repl (l : List Pt) (c : Pt) : ((tab l).map fun kv => if kv.1 = kP c then (kv.1, V.bl true) else kv) = tab l := by
  induction l with
  | nil => rfl
  | cons a r ih =>
    show (if kP a = kP c then (kP a, V.bl true) else (kP a, V.bl true)) :: (tab r).map _ = _
    rw [ih]
    split <;> rfl
theorem tab_put (l : List Pt) (c : Pt) : putK (tab l) (kP c) (.bl true) = tab (if l.contains c = true then l else l ++ [c]) := by
  unfold putK
  rw [tab_any]
  by_cases h : l.contains c = true
  · rw [if_pos h, if_pos h, tab_repl]
  · rw [if_neg h, if_neg h]
    unfold tab
    rw [List.map_append]
    rfl
theorem tab_len (l : List Pt) : (tab l).length = l.length := List.length_map _
section
variable {P : Program} {w : World} {K : PySem.W.Frag} {mg : Str → Option Value} {base : Heap} {C : Addr}
/-! ### corners_come_to -/
def spCome (K : PySem.W.Frag) : Sp := fun vs H Q _ => ∃ (x y : Int) (a : Addr) (ns : List Int), vs = [.int x, .int y, .ref a] ∧ SqL K H a (ns.map V.int) ∧ Steps ns ∧ ns.length ≤ 1000 ∧
  ∀ (H' : Hp) (p : Addr), Same H H' → H p = Option.none → H' p = some (.dT (tab (vis [] (Mu55.corners ⟨x, y⟩ (nats ns))))) → Q (.ref p) H'
theorem sc_corners_come_to : FnScope ["right", "up", "way", "corner", "found", "step"] ["right", "up", "way"] (defScope s_corners_come_to) := ⟨rfl, rfl, rfl, by decide +kernel, rfl, by decide +kernel, by decide +kernel⟩
theorem ok_come {f : Addr} {fd : FuncData} (F : Fun K "corners_come_to" "corners_come_to" s_corners_come_to f fd) (T : Txt K mg C) (G_end_of : Fn P w K mg base 1 "end_of" ["right", "up", "way"] (spEnd K)) :
    FnOk P w K mg base CX0 2 f fd ["right", "up", "way"] (spCome K) := by
  refine F.ok sc_corners_come_to (fun vs H Q E h => ?_) (fun cdv A outer s H vs Q E hr h => ?_)
  · obtain ⟨x, y, a, ns, rfl, _⟩ := h
    rfl
  · obtain ⟨x, y, a, ns, rfl, hS, hst, hlen, k⟩ := h
    refine ⟨_, (pss_cons (ps_set (i := 3) sc_corners_come_to.nd rfl (Or.inl rfl) (pe_tup (pa_cons (pv 0) (pa_cons (pv 1) pa_nil))))
      (pss_cons (ps_set (i := 4) sc_corners_come_to.nd rfl (Or.inl rfl) (pe_disp1T (hu_of hr) (pv 3) (pe_bl)))
      (pss_cons (ps_for PassesOwn.never rfl (pi_list (pv 2)) (pg_name (i := 5) sc_corners_come_to.nd rfl (Or.inl rfl)) 
        (pss_cons (ps_set (i := 3) sc_corners_come_to.nd rfl (Or.inl rfl) (pe_fn G_end_of (hr.mono (by decide)) rfl (pa_cons (pe_ix ix_tup (pv 3) (pe_int) (fun _ _ => rfl)) (pa_cons (pe_ix ix_tup (pv 3) (pe_int) (fun _ _ => rfl)) (pa_cons (pe_lst (pa_cons (pv 5) pa_nil)) pa_nil)))))
        (pss_one (ps_dput (hu_of hr) (pv 4) (pv 3) (pe_bl) rfl))))
      (pss_one (ps_ret (pv 4)))))), ?_⟩
    refine ⟨_, rfl, _, rfl, (by show 2 ≤ sizeLine; decide), fun c hc => ?_⟩
    have s1 := same_new (o := .tup [.int x, .int y]) hc
    intro d hd
    have ncd : c ≠ d := fun z => by rw [← z, upd_same] at hd; cases hd
    have hd0 : H d = Option.none := s1.free hd
    refine ⟨_, rfl, upd_same, kP ⟨x, y⟩, c, rfl, (by rw [upd_ne ncd]; exact upd_same), ?_⟩
    rw [upd_upd]
    have s2 := s1.trans (same_new (o := .dT (putK [] (kP ⟨x, y⟩) (.bl true))) hd)
    refine ⟨_, rfl, a, rfl, ⟨_, s2.seq hS⟩, for_list (K := K) (a := a) (xs := ns.map V.int)
      (fun i σ H' => ∃ (v : Option V) (c' : Addr) (p : Pt) (acc : List Pt), σ = [some (.int x), some (.int y), some (.ref a), some (.ref c'), some (.ref d), v] ∧ Same H H' ∧ H' c' = some (.tup [.int p.x, .int p.y]) ∧ H' d = some (.dT (tab acc)) ∧
        acc.length ≤ i + 1 ∧ vis acc (Mu55.corners p (nats (ns.drop i))).tail = vis [] (Mu55.corners ⟨x, y⟩ (nats ns)))
      ⟨none, c, ⟨x, y⟩, [⟨x, y⟩], rfl, s2, (by rw [upd_ne ncd]; exact upd_same), upd_same, Nat.le_refl _, (by rw [List.drop_zero, corners_head ⟨x, y⟩ (nats ns)]; rfl)⟩ (fun i σ H' _ ⟨_, _, _, _, _, s5, _⟩ => s5.seq hS) ?_ ?_⟩
    · rintro i yv σ H' hi ⟨v, c', p, acc, rfl, s5, hc', hd', hacc, hv⟩
      obtain ⟨z, hz, rfl⟩ := map_at hi
      have hz4 := hst z (List.mem_of_getElem? hz)
      have hil : i < ns.length := (List.getElem?_eq_some_iff.mp hz).1
      rw [drop_at hz, nats_cons, corners_cons, next_end p hz4.1 hz4.2] at hv
      refine ⟨_, rfl, c', _, _, _, rfl, rfl, SqT.of hc', rfl, ?_⟩
      refine ⟨_, rfl, c', _, _, _, rfl, rfl, SqT.of hc', rfl, ?_⟩
      refine ⟨_, rfl, (by show 1 ≤ sizeLine; decide), fun l hl => ?_⟩
      refine ⟨p.x, p.y, l, [z], rfl, SqL.of upd_same, fun H2 c2 s6 hn2 hc2 => ?_⟩
      have s7 : Same H' H2 := (same_new hl).trans s6
      refine ⟨_, rfl, _, rfl, d, _, rfl, DPut.t (k := kP ⟨endX p.x [z], endY p.y [z]⟩) (s7 _ _ hd') hc2 (by rw [tab_len]; exact small1000 (by omega)), ?_⟩
      rw [tab_put]
      refine ⟨_, c2, ⟨endX p.x [z], endY p.y [z]⟩, _, rfl, ?_, ?_, upd_same, ?_, hv⟩
      · intro b o e
        rw [upd_ne (ne_of_none e hd0)]
        exact s7 _ _ (s5 _ _ e)
      · rw [upd_ne (ne_of hc2 (s7 _ _ hd') (by intro z; cases z))]
        exact hc2
      · split
        · omega
        · rw [List.length_append, List.length_singleton]
          omega
    · rintro σ H' ⟨v, c', p, acc, rfl, s5, hc', hd', hacc, hv⟩
      rw [List.length_map, List.drop_length] at hv
      have hv : acc = vis [] (Mu55.corners ⟨x, y⟩ (nats ns)) := hv
      rw [hv] at hd'
      exact ⟨_, rfl, k _ d s5 hd0 hd'⟩
/-! ### straightened -/
def vN (l : List Nat) : List V := l.map fun (m : Nat) => V.int (m : Int)
theorem vN_nums (l : List Nat) : (Mu55.nums l).map V.int = vN l := by
  unfold Mu55.nums vN
  rw [List.map_map]
  rfl
def spStraight (K : PySem.W.Frag) : Sp := fun vs H Q _ => ∃ (a : Addr) (ns : List Int), vs = [.ref a] ∧ SqL K H a (ns.map V.int) ∧ Steps ns ∧ ns.length ≤ 1000 ∧
  ∀ (H' : Hp) (p : Addr), Same H H' → H p = Option.none → (Mu55.straight (nats ns)).length ≤ 1000 → H' p = some (.lst (vN (Mu55.straight (nats ns)))) → Q (.ref p) H'
theorem sc_straightened : FnScope ["way", "kept", "step"] ["way"] (defScope s_straightened) := ⟨rfl, rfl, rfl, by decide +kernel, rfl, by decide +kernel, by decide +kernel⟩
theorem back_at {z : Int} (h : 0 ≤ z ∧ z < 4) : atI (([.int (1), .int (0), .int (3), .int (2)]) : List V) z = some (.int (Mu55.back z.toNat : Nat)) := by
  have h : z = 0 ∨ z = 1 ∨ z = 2 ∨ z = 3 := by omega
  rcases h with rfl | rfl | rfl | rfl <;> rfl
theorem ok_straight1 {f : Addr} {fd : FuncData} (F : Fun K "straightened" "straightened" s_straightened f fd) (T : Txt K mg C) : FnOk P w K mg base CX0 1 f fd ["way"] (spStraight K) := by
  refine F.ok sc_straightened (fun vs H Q E h => ?_) (fun cdv A outer s H vs Q E hr h => ?_)
  · obtain ⟨a, ns, rfl, _⟩ := h
    rfl
  · obtain ⟨a, ns, rfl, hS, hst, hlen, k⟩ := h
    refine ⟨_, (pss_cons (ps_set (i := 1) sc_straightened.nd rfl (Or.inl rfl) (pe_lst pa_nil))
      (pss_cons (ps_for PassesOwn.never rfl (pi_list (pv 0)) (pg_name (i := 2) sc_straightened.nd rfl (Or.inl rfl)) 
        (pss_one (ps_if (PW.pt (pw_and (pt_cmpR op_gt (pe_callB call_len_seq (by rfl) T.b_len boot_len (pa_cons (pv 1) pa_nil)) (pe_int) (nomark _)) (pw_and1 (pt_cmpR op_eq (pe_ix ix_list (pv 1) (pe_un un_neg (pe_int)) (fun _ _ => rfl)) (pe_ix ix_tup (pe_gtup rfl T.g_BACK_OF) (pv 2) (fun _ _ => rfl)) (nomark _))))) 
          (pss_one (ps_expr (pe_bm0 PySem.F.plainAttrs_list PySem.F.slot_list_pop PySem.F.type_list_pop mt_pop (pv 1)))) 
          (pss_one (ps_expr (pe_bm PySem.F.plainAttrs_list PySem.F.slot_list_append PySem.F.type_list_append mt_append (pv 1) (pa_cons (pv 2) pa_nil)))))))
      (pss_one (ps_ret (pv 1))))), ?_⟩
    refine ⟨Nat.zero_le _, fun q hq => ?_⟩
    refine ⟨_, rfl, a, rfl, ⟨_, (same_new hq).seq hS⟩, for_list (K := K) (a := a) (xs := ns.map V.int)
      (fun i σ H' => ∃ (v : Option V) (l : List Nat), σ = [some (.ref a), some (.ref q), v] ∧ Same H H' ∧ H' q = some (.lst (vN l.reverse)) ∧ l.length ≤ i ∧ (∀ t ∈ l, t < 4) ∧ (nats (ns.drop i)).foldl sstep l = (nats ns).foldl sstep [])
      ⟨none, [], rfl, same_new hq, upd_same, Nat.le_refl _, (fun t ht => by cases ht), rfl⟩ (fun i σ H' _ ⟨_, _, _, s5, _⟩ => s5.seq hS) ?_ ?_⟩
    · rintro i yv σ H' hi ⟨v, l, rfl, s5, hq', hl, h4, hf⟩
      obtain ⟨z, hz, rfl⟩ := map_at hi
      have hz4 := hst z (List.mem_of_getElem? hz)
      have hil : i < ns.length := (List.getElem?_eq_some_iff.mp hz).1
      have hzn : z.toNat < 4 := by omega
      have hzz : ((z.toNat : Nat) : Int) = z := Int.toNat_of_nonneg hz4.1
      rw [drop_at hz, nats_cons, List.foldl_cons] at hf
      have hput : sstep l z.toNat = z.toNat :: l → ∃ (v : Option V) (l' : List Nat), [some (V.ref a), some (V.ref q), some (V.int z)] = [some (.ref a), some (.ref q), v] ∧ Same H (upd H' q (.lst (vN l.reverse ++ [.int z]))) ∧ upd H' q (.lst (vN l.reverse ++ [.int z])) q = some (.lst (vN l'.reverse)) ∧ l'.length ≤ i + 1 ∧ (∀ t ∈ l', t < 4) ∧ (nats (ns.drop (i + 1))).foldl sstep l' = (nats ns).foldl sstep [] := by
        intro e
        refine ⟨_, sstep l z.toNat, rfl, ?_, ?_, ?_, sstep_lt h4 hzn, hf⟩
        · intro b o e
          rw [upd_ne (ne_of_none e hq)]
          exact s5 _ _ e
        · rw [upd_same, e, List.reverse_cons]
          unfold vN
          rw [List.map_append]
          show _ = some (HO.lst (_ ++ [V.int ((z.toNat : Nat) : Int)]))
          rw [hzz]
        · have := sstep_len l z.toNat
          omega
      refine ⟨_, rfl, q, _, rfl, .inl (SqL.of hq'), _, _, rfl, rfl, _, rfl, ite2 (fun h1 => ?_) (fun h1 => ?_)⟩
      · cases l with
        | nil => exact absurd (of_decide_eq_true h1) (by show ¬ (0 : Int) < ((vN []).length : Nat); decide)
        | cons t r =>
          have ht4 : t < 4 := h4 t List.mem_cons_self
          have ev : vN (t :: r).reverse = vN r.reverse ++ [.int (t : Int)] := by
            unfold vN
            rw [List.reverse_cons, List.map_append]
            rfl
          rw [ev] at hq' hput
          refine ⟨_, rfl, _, rfl, q, _, _, _, rfl, rfl, SqL.of hq', atI_last _ _, fun b hb => ?_⟩
          refine ⟨_, rfl, b, _, _, _, rfl, rfl, hb, back_at hz4, rfl, _, rfl, ite2 (fun h2 => ?_) (fun h2 => ?_)⟩
          · have h2 : (t : Int) = ((Mu55.back z.toNat : Nat) : Int) := V.int.inj (of_decide_eq_true h2)
            have h2 : z.toNat = Mu55.back t := (back_back ht4 hzn).mp (by omega)
            have e : sstep (t :: r) z.toNat = r := by
              unfold sstep
              simp only
              rw [if_pos h2]
            rw [e] at hf
            refine ⟨_, rfl, .inl ⟨rfl, _, SqL.of hq'⟩, q, _, .int (t : Int), rfl, rfl, hq', (by simp), ?_⟩
            rw [List.dropLast_concat]
            refine ⟨_, r, rfl, ?_, upd_same, ?_, (fun t ht => h4 t (List.mem_cons_of_mem _ ht)), hf⟩
            · intro b o e
              rw [upd_ne (ne_of_none e hq)]
              exact s5 _ _ e
            · rw [List.length_cons] at hl
              omega
          · have h2 : ¬ (t : Int) = ((Mu55.back z.toNat : Nat) : Int) := fun z => h2 (decide_eq_true (congrArg V.int z))
            have h2 : ¬ z.toNat = Mu55.back t := fun e => h2 (by rw [← (back_back ht4 hzn).mpr e])
            have e : sstep (t :: r) z.toNat = z.toNat :: t :: r := by
              unfold sstep
              simp only
              rw [if_neg h2]
            refine ⟨_, rfl, .inl ⟨rfl, _, SqL.of hq'⟩, _, rfl, q, _, _, rfl, rfl, hq', ?_, hput e⟩
            have hl2 : (t :: r).length ≤ i := hl
            rw [List.length_cons] at hl2
            unfold vN
            rw [List.length_append, List.length_map, List.length_reverse, List.length_singleton]
            exact small1000 (by omega)
      · have e0 : l = [] := by
          cases l with
          | nil => rfl
          | cons t r => exact absurd (decide_eq_true (by show (0 : Int) < ((vN (t :: r).reverse).length : Nat); unfold vN; rw [List.length_map, List.length_reverse, List.length_cons]; omega)) h1
        subst e0
        refine iteF ?_
        exact ⟨_, rfl, .inl ⟨rfl, _, SqL.of hq'⟩, _, rfl, q, _, _, rfl, rfl, hq', (by show 0 < sizeLine; decide), hput rfl⟩
    · rintro σ H' ⟨v, l, rfl, s5, hq', hl, h4, hf⟩
      rw [List.length_map] at hf hl
      rw [List.drop_length] at hf
      have hf : l = (nats ns).foldl sstep [] := hf
      have e : Mu55.straight (nats ns) = l.reverse := by rw [hf]; rfl
      refine ⟨_, rfl, k _ q s5 hq ?_ ?_⟩
      · rw [e, List.length_reverse]
        omega
      · rw [e]
        exact hq'
/-! ### row_length -/
def spRow : Sp := fun vs H Q _ => ∃ n : Nat, vs = [.int (n : Int)] ∧ n < 65 ∧ Q (.int (Mu55.root n : Nat)) H
theorem sc_row_length : FnScope ["squares", "length"] ["squares"] (defScope s_row_length) := ⟨rfl, rfl, rfl, by decide +kernel, rfl, by decide +kernel, by decide +kernel⟩
theorem ok_row {f : Addr} {fd : FuncData} (F : Fun K "row_length" "row_length" s_row_length f fd) (T : Txt K mg C) : FnOk P w K mg base CX0 1 f fd ["squares"] spRow := by
  refine F.ok sc_row_length (fun vs H Q E h => ?_) (fun cdv A outer s H vs Q E hr h => ?_)
  · obtain ⟨n, rfl, _⟩ := h
    rfl
  · obtain ⟨n, rfl, hn, k⟩ := h
    refine ⟨_, (pss_cons (ps_set (i := 1) sc_row_length.nd rfl (Or.inl rfl) (pe_int))
      (pss_cons (ps_while PassesOwn.never (pt_cmpR op_lt (pe_op op_mul (pv 1) (pv 1)) (pv 0) (nomark _)) 
        (pss_one (ps_aug (i := 1) sc_row_length.nd rfl (Or.inl rfl) (pe_int) ip_add)))
      (pss_one (ps_ret (pv 1))))), ?_⟩
    refine ⟨fun m σ H' => ∃ j : Nat, m + j = 65 ∧ σ = [some (.int (n : Int)), some (.int (j : Int))] ∧ H = H' ∧ ∀ i < j, i * i < n, ⟨65, 0, rfl, rfl, rfl, fun i hi => by omega⟩, ?_⟩
    rintro m σ H' ⟨j, hm, rfl, rfl, hj⟩
    have hj9 : j < 9 := by
      rcases Nat.lt_or_ge j 9 with h | h
      · exact h
      · have := hj 8 (by omega)
        omega
    refine ⟨_, rfl, _, rfl, _, _, rfl, rfl, .inl ⟨by omega, by omega⟩, _, rfl, _, _, rfl, rfl, _, rfl, ite2 (fun h1 => ?_) (fun h1 => ?_)⟩
    · have h1 : (j : Int) * j < n := of_decide_eq_true h1
      have h1 : j * j < n := by exact_mod_cast h1
      refine ⟨fun σ H' => ∃ j : Nat, (m - 1) + j = 65 ∧ σ = [some (.int (n : Int)), some (.int (j : Int))] ∧ H = H' ∧ ∀ i < j, i * i < n, fun σ' H' h => ⟨m - 1, by omega, h⟩, ?_⟩
      refine ⟨_, rfl, _, _, rfl, rfl, j + 1, by omega, rfl, rfl, fun i hi => ?_⟩
      rcases Nat.lt_or_ge i j with h | h
      · exact hj i h
      · have e : i = j := by omega
        subst e
        exact h1
    · have h1 : ¬ (j : Int) * j < n := fun z => h1 (decide_eq_true z)
      have h1 : n ≤ j * j := by
        rcases Nat.lt_or_ge (j * j) n with h | h
        · exact absurd (by exact_mod_cast h) h1
        · exact h
      have e := root_of hn h1 hj
      subst e
      exact ⟨_, rfl, k⟩
/-! ### loop_round -/
def spLoopRound : Sp := fun vs H Q _ => ∃ n : Nat, vs = [.int (n : Int)] ∧ n < 65 ∧ ∀ (H' : Hp) (p : Addr), Same H H' → H p = Option.none → H' p = some (.lst (vN (Mu55.shortest n))) → Q (.ref p) H'
theorem sc_loop_round : FnScope ["squares", "length", "full_rows", "rest", "outwards", "ledge"] ["squares"] (defScope s_loop_round) := ⟨rfl, rfl, rfl, by decide +kernel, rfl, by decide +kernel, by decide +kernel⟩
theorem ok_loopround {f : Addr} {fd : FuncData} (F : Fun K "loop_round" "loop_round" s_loop_round f fd) (T : Txt K mg C) (G_row_length : Fn P w K mg base 1 "row_length" ["squares"] spRow) : FnOk P w K mg base CX0 2 f fd ["squares"] spLoopRound := by
  refine F.ok sc_loop_round (fun vs H Q E h => ?_) (fun cdv A outer s H vs Q E hr h => ?_)
  · obtain ⟨n, rfl, _⟩ := h
    rfl
  · obtain ⟨n, rfl, hn, k⟩ := h
    refine ⟨_, (pss_cons (ps_if (pt_cmpR op_eq (pv 0) (pe_int) (nomark _)) 
        (pss_one (ps_ret (pe_lst pa_nil))) pss_nil)
      (pss_cons (ps_set (i := 1) sc_loop_round.nd rfl (Or.inl rfl) (pe_fn G_row_length (hr.mono (by decide)) rfl (pa_cons (pv 0) pa_nil)))
      (pss_cons (ps_set (i := 2) sc_loop_round.nd rfl (Or.inl rfl) (pe_op op_fdiv (pv 0) (pv 1)))
      (pss_cons (ps_set (i := 3) sc_loop_round.nd rfl (Or.inl rfl) (pe_op op_mod (pv 0) (pv 1)))
      (pss_cons (ps_set (i := 4) sc_loop_round.nd rfl (Or.inl rfl) (pe_op op_cat (pe_op op_rep (pe_lst (pa_cons (pe_gi rfl T.g_STEP_RIGHT) pa_nil)) (pv 1)) (pe_op op_rep (pe_lst (pa_cons (pe_gi rfl T.g_STEP_UP) pa_nil)) (pv 2))))
      (pss_cons (ps_if (pt_cmpR op_eq (pv 3) (pe_int) (nomark _)) 
        (pss_one (ps_ret (pe_op op_cat (pe_op op_cat (pv 4) (pe_op op_rep (pe_lst (pa_cons (pe_gi rfl T.g_STEP_LEFT) pa_nil)) (pv 1))) (pe_op op_rep (pe_lst (pa_cons (pe_gi rfl T.g_STEP_DOWN) pa_nil)) (pv 2))))) pss_nil)
      (pss_cons (ps_set (i := 5) sc_loop_round.nd rfl (Or.inl rfl) (pe_op op_cat (pe_op op_rep (pe_lst (pa_cons (pe_gi rfl T.g_STEP_LEFT) pa_nil)) (pe_op op_sub (pv 1) (pv 3))) (pe_lst (pa_cons (pe_gi rfl T.g_STEP_UP) pa_nil))))
      (pss_one (ps_ret (pe_op op_cat (pe_op op_cat (pe_op op_cat (pv 4) (pv 5)) (pe_op op_rep (pe_lst (pa_cons (pe_gi rfl T.g_STEP_LEFT) pa_nil)) (pv 3))) (pe_op op_rep (pe_lst (pa_cons (pe_gi rfl T.g_STEP_DOWN) pa_nil)) (pe_op op_add (pv 2) (pe_int))))))))))))), ?_⟩
    refine ⟨_, rfl, rfl, _, rfl, ite2 (fun h0 => ?_) (fun h0 => ?_)⟩
    · have h0 : (n : Int) = 0 := V.int.inj (of_decide_eq_true h0)
      have h0 : n = 0 := by omega
      subst h0
      exact ⟨Nat.zero_le _, fun p hp => k _ p (same_new hp) hp upd_same⟩
    have h0 : ¬ (n : Int) = 0 := fun z => h0 (decide_eq_true (congrArg V.int z))
    have h0 : n ≠ 0 := by omega
    have hk0 := root_pos hn h0
    have hk8 := root_le n hn
    refine ⟨_, rfl, n, rfl, hn, ?_⟩
    refine ⟨_, rfl, _, rfl, _, _, rfl, rfl, ⟨by omega, by omega⟩, ?_⟩
    refine ⟨_, rfl, _, rfl, _, _, rfl, rfl, (by show (0 : Int) < (Mu55.root n : Nat); omega), ?_⟩
    have eq : ((n : Int) / (Mu55.root n : Nat)) = ((n / Mu55.root n : Nat) : Int) := by rw [Int.natCast_ediv]
    have er : ((n : Int) % (Mu55.root n : Nat)) = ((n % Mu55.root n : Nat) : Int) := by rw [Int.natCast_emod]
    have hq64 : n / Mu55.root n ≤ 64 := Nat.le_trans (Nat.div_le_self _ _) (by omega)
    have hr8 : n % Mu55.root n < Mu55.root n := Nat.mod_lt _ hk0
    have hfull := @shortest_full n h0
    have hrest := @shortest_rest n h0
    generalize hgq : n / Mu55.root n = q at eq hq64 hfull hrest
    generalize hgr : n % Mu55.root n = r at er hr8 hfull hrest
    try dsimp only [gName, tSeq, tAsg, tRet]
    refine mk_use (mk_cat (mk_rep (mk_lst1 ev_c).mk (ev_var rfl) (by omega) (by omega)).mk (mk_rep (mk_lst1 ev_c).mk (ev_var (congrArg (fun z => some (some (V.int z))) eq)) (by omega) (by omega)).mk (by rw [List.length_replicate, List.length_replicate]; omega)) (fun H1 o s1 hno ho => ?_)
    refine ⟨_, rfl, rfl, _, rfl, ite2 (fun h1 => ?_) (fun h1 => ?_)⟩
    · have h1 : (n : Int) % (Mu55.root n : Nat) = 0 := V.int.inj (of_decide_eq_true h1)
      have h1 : r = 0 := by rw [er] at h1; omega
      try dsimp only [gName, tSeq, tAsg, tRet]
      refine mk_use (mk_cat (mk_cat (mk_var rfl ho) (mk_rep (mk_lst1 ev_c).mk (ev_var rfl) (by omega) (by omega)).mk (by rw [List.length_append, List.length_replicate, List.length_replicate, List.length_replicate]; omega)).mk (mk_rep (mk_lst1 ev_c).mk (ev_var (congrArg (fun z => some (some (V.int z))) eq)) (by omega) (by omega)).mk (by rw [List.length_append, List.length_append, List.length_replicate, List.length_replicate, List.length_replicate, List.length_replicate]; omega)) (fun H2 p s2 hnp hp => ?_)
      refine k _ p (s1.trans s2) (s1.free hnp) ?_
      rw [hp, hfull h1]
      unfold vN
      simp only [List.map_append, List.map_replicate, List.append_assoc, Int.toNat_natCast]
      rfl
    · have h1 : ¬ (n : Int) % (Mu55.root n : Nat) = 0 := fun z => h1 (decide_eq_true (congrArg V.int z))
      have h1 : r ≠ 0 := by rw [er] at h1; omega
      have eR : some (some (V.int ((n : Int) % (Mu55.root n : Nat)))) = some (some (V.int (r : Int))) := congrArg (fun z => some (some (V.int z))) er
      try dsimp only [gName, tSeq, tAsg, tRet]
      refine mk_use (mk_cat (mk_rep (mk_lst1 ev_c).mk (ev_sub (ev_var rfl) (ev_var eR)) (by omega) (by omega)).mk (mk_lst1 ev_c).mk (by rw [List.length_replicate, List.length_singleton]; omega)) (fun H2 g s2 hng hg => ?_)
      have ho2 := s2 _ _ ho
      have et : ((Mu55.root n : Nat) - (r : Int)).toNat = Mu55.root n - r := by omega
      have eu : ((q : Int) + 1).toNat = q + 1 := by omega
      try dsimp only [gName, tSeq, tAsg, tRet]
      refine mk_use (mk_cat (mk_cat (mk_cat (mk_var rfl ho2) (mk_var rfl hg) ?_).mk (mk_rep (mk_lst1 ev_c).mk (ev_var eR) (by omega) (by omega)).mk ?_).mk (mk_rep (mk_lst1 ev_c).mk (ev_add (ev_var (congrArg (fun z => some (some (V.int z))) eq)) ev_c) (by omega) (by omega)).mk ?_) (fun H3 p s3 hnp hp => ?_)
      · simp only [List.length_append, List.length_replicate, List.length_singleton]
        omega
      · simp only [List.length_append, List.length_replicate, List.length_singleton]
        omega
      · simp only [List.length_append, List.length_replicate, List.length_singleton]
        omega
      · refine k _ p ((s1.trans s2).trans s3) ((s1.trans s2).free hnp) ?_
        rw [hp, hrest h1, et, eu]
        unfold vN
        simp only [List.map_append, List.map_replicate, List.append_assoc, Int.toNat_natCast, List.map_cons, List.singleton_append]
        rfl
end
end WA
end
section
set_option Elab.async false
set_option linter.all false
set_option maxRecDepth 100000
set_option maxHeartbeats 2000000
namespace WA
open PySem PySem.Spec PyProof.Rows L2
open Mu55 (Pt onPaper State isWay closes ending turn step)
theorem vis_contains (l : List Pt) (q : Pt) : (vis [] l).contains q = l.contains q := by
  rw [Bool.eq_iff_iff, List.contains_iff_mem, List.contains_iff_mem, vis_mem]
  simp
theorem vN_len (l : List Nat) : (vN l).length = l.length := List.length_map _
theorem tell_eq (l : List Nat) : [V.int ((vN l).length : Nat)] ++ vN l = (Mu55.nums (l.length :: l)).map V.int := by
  rw [vN_nums, vN_len]
  rfl
section
variable {P : Program} {w : World} {K : PySem.W.Frag} {mg : Str → Option Value} {base : Heap} {C : Addr}
/-! ### corners -/
theorem sc_Pointer_corners : FnScope ["self", "way", "uprights", "come_to", "within", "right", "up"] ["self", "way"] (defScope s_Pointer_corners) := ⟨rfl, rfl, rfl, by decide +kernel, rfl, by decide +kernel, by decide +kernel⟩
theorem ok_corners {f : Addr} {fd : FuncData} (F : Fun K "corners" "Pointer.corners" s_Pointer_corners f fd) (T : Txt K mg C) (G_is_way : Fn P w K mg base 2 "is_way" ["right", "up", "way"] (spWay K)) (G_is_loop : Fn P w K mg base 2 "is_loop" ["right", "up", "way"] (spLoop K))
    (G_upright_steps : Fn P w K mg base 1 "upright_steps" ["right", "up", "way"] (spUpr K)) (G_times_round : Fn P w K mg base 1 "times_round" ["square_right", "square_up", "uprights"] (spTimes K))
    (G_corners_come_to : Fn P w K mg base 2 "corners_come_to" ["right", "up", "way"] (spCome K)) :
    FnOk P w K mg base CX0 3 f fd ["self", "way"] (spW K C .corners) := by
  refine F.ok sc_Pointer_corners (fun vs H Q E h => ?_) (fun cdv A outer s H vs Q E hr h => ?_)
  · obtain ⟨a, b, st, ns, rfl, _⟩ := h
    rfl
  · obtain ⟨a, b, st, ns, rfl, ⟨hon, dx, hA⟩, hS, hn, k⟩ := h
    refine ⟨_, (pss_cons (ps_if (pt_not (pt_val (pe_fn G_is_way (hr.mono (by decide)) rfl (pa_cons (pe_fld (pv 0) rfl) (pa_cons (pe_fld (pv 0) rfl) (pa_cons (pv 1) pa_nil)))))) 
        (pss_one (ps_ret (pe_lst (pa_cons (pe_gi rfl T.g_NOT_LET) pa_nil)))) pss_nil)
      (pss_cons (ps_if (pt_not (pt_val (pe_fn G_is_loop (hr.mono (by decide)) rfl (pa_cons (pe_fld (pv 0) rfl) (pa_cons (pe_fld (pv 0) rfl) (pa_cons (pv 1) pa_nil)))))) 
        (pss_one (ps_ret (pe_lst (pa_cons (pe_gi rfl T.g_NO_LOOP) pa_nil)))) pss_nil)
      (pss_cons (ps_set (i := 2) sc_Pointer_corners.nd rfl (Or.inl rfl) (pe_fn G_upright_steps (hr.mono (by decide)) rfl (pa_cons (pe_fld (pv 0) rfl) (pa_cons (pe_fld (pv 0) rfl) (pa_cons (pv 1) pa_nil)))))
      (pss_cons (ps_set (i := 3) sc_Pointer_corners.nd rfl (Or.inl rfl) (pe_fn G_corners_come_to (hr.mono (by decide)) rfl (pa_cons (pe_fld (pv 0) rfl) (pa_cons (pe_fld (pv 0) rfl) (pa_cons (pv 1) pa_nil)))))
      (pss_cons (ps_set (i := 4) sc_Pointer_corners.nd rfl (Or.inl rfl) (pe_int))
      (pss_cons (ps_for PassesOwn.never rfl (pi_range2 rfl T.b_range (pa_cons (pe_int) (pa_cons (pe_gi rfl T.g_EDGE) pa_nil))) (pg_name (i := 5) sc_Pointer_corners.nd rfl (Or.inl rfl)) 
        (pss_one (ps_for PassesOwn.never rfl (pi_range2 rfl T.b_range (pa_cons (pe_int) (pa_cons (pe_gi rfl T.g_EDGE) pa_nil))) (pg_name (i := 6) sc_Pointer_corners.nd rfl (Or.inl rfl)) 
          (pss_one (ps_if (PW.pt (pw_and (pt_cmp (pc_dnotin (hu_of hr) (pe_tup (pa_cons (pv 5) (pa_cons (pv 6) pa_nil))) (pv 3))) (pw_and1 (pt_cmpR op_ne (pe_fn G_times_round (hr.mono (by decide)) rfl (pa_cons (pv 5) (pa_cons (pv 6) (pa_cons (pv 2) pa_nil)))) (pe_int) (nomark _))))) 
            (pss_one (ps_aug (i := 4) sc_Pointer_corners.nd rfl (Or.inl rfl) (pe_int) ip_add)) pss_nil)))))
      (pss_one (ps_ret (pe_lst (pa_cons (pv 4) (pa_cons (pe_callB call_lenT (by rfl) T.b_len boot_len (pa_cons (pv 3) pa_nil)) pa_nil))))))))))), ?_⟩
    refine ⟨_, rfl, a, C, dx, _, _, rfl, hA, T.cl, T.n_right, pf_right _ _ _ _ _, _, rfl, a, C, dx, _, _, rfl, hA, T.cl, T.n_up, pf_up _ _ _ _ _, _, rfl, _, _, b, ns, rfl, hS, hn, fun H1 s1 => ?_⟩
    have ew := isWay_good st (nats ns) hon
    rw [nats_len] at ew
    rw [show (⟨st.here.x, st.here.y⟩ : Pt) = st.here from rfl, ← ew]
    have e : step (some st) (.corners (nats ns)) = (some st, if isWay st (nats ns) = false then [-1] else if closes st (nats ns) = false then [-6] else Mu55.nums [(Mu55.inner st.here (nats ns)).length, ((Mu55.corners st.here (nats ns)).eraseDups).length]) := rfl
    rw [e] at k
    refine ⟨_, rfl, ite2 (fun h1 => ?_) (fun h1 => ?_)⟩
    · have h1 : isWay st (nats ns) = false := by simpa using h1
      rw [if_pos h1] at k
      exact ⟨(by show 1 ≤ sizeLine; decide), fun p hp => k _ p ⟨hon, dx, (same_new hp) _ _ (s1 _ _ hA)⟩ (Kept.of (s1.trans (same_new hp))) (s1.free hp) upd_same⟩
    have h1 : isWay st (nats ns) = true := by simpa using h1
    have hst := isWay_steps hon hn h1
    have hl := isWay_len h1
    have hgood : good st.here (nats ns) = true := by
      rw [ew, Bool.and_eq_true] at h1
      exact h1.2
    rw [nats_len] at hl
    rw [if_neg (by rw [h1]; exact Bool.noConfusion)] at k
    have hA1 := s1 _ _ hA
    refine ⟨_, rfl, a, C, dx, _, _, rfl, hA1, T.cl, T.n_right, pf_right _ _ _ _ _, _, rfl, a, C, dx, _, _, rfl, hA1, T.cl, T.n_up, pf_up _ _ _ _ _, _, rfl, _, _, b, ns, rfl, s1.seq hS, fun H2 s2 => ?_⟩
    rw [← closes_eq hst]
    have s12 := s1.trans s2
    refine ⟨_, rfl, ite2 (fun h4 => ?_) (fun h4 => ?_)⟩
    · have h4 : closes st (nats ns) = false := by simpa using h4
      rw [if_pos h4] at k
      exact ⟨(by show 1 ≤ sizeLine; decide), fun p hp => k _ p ⟨hon, dx, (same_new hp) _ _ (s12 _ _ hA)⟩ (Kept.of (s12.trans (same_new hp))) (s12.free hp) upd_same⟩
    have h4 : closes st (nats ns) = true := by simpa using h4
    have hend : ending st.here (nats ns) = st.here := pt_beq_true.mp h4
    rw [if_neg (by rw [h4]; exact Bool.noConfusion), inner_len hon hgood hend, dups_vis] at k
    have hA2 := s12 _ _ hA
    refine ⟨_, rfl, a, C, dx, _, _, rfl, hA2, T.cl, T.n_right, pf_right _ _ _ _ _, _, rfl, a, C, dx, _, _, rfl, hA2, T.cl, T.n_up, pf_up _ _ _ _ _, _, rfl, _, _, b, ns, rfl, s12.seq hS, by omega, fun H3 c s3 hc hR => ?_⟩
    have s13 := s12.trans s3
    have hA3 := s13 _ _ hA
    refine ⟨_, rfl, a, C, dx, _, _, rfl, hA3, T.cl, T.n_right, pf_right _ _ _ _ _, _, rfl, a, C, dx, _, _, rfl, hA3, T.cl, T.n_up, pf_up _ _ _ _ _, _, rfl, _, _, b, ns, rfl, s13.seq hS, hst, by omega, fun H4 d s4 hd0 hd => ?_⟩
    have s14 := s13.trans s4
    have hR4 := hR.same s4
    have hd : H4 d = some (.dT (tab (vis [] (Mu55.corners st.here (nats ns))))) := hd
    -- the two loops
    refine ⟨1, 8, rfl, ⟨by decide, by decide, by decide, by decide⟩, for_range (lo := 1) (n := 7)
      (fun i σ H' => ∃ (v1 v2 : Option V), σ = [some (.ref a), some (.ref b), some (.ref c), some (.ref d), some (.int (cin st.here (nats ns) (ins i 0) : Nat)), v1, v2] ∧ Same H4 H')
      ⟨none, none, rfl, same_refl _⟩ ?_ ?_⟩
    · rintro i σ H' hi ⟨v1, v2, rfl, s5⟩
      refine ⟨1, 8, rfl, ⟨by decide, by decide, by decide, by decide⟩, for_range (lo := 1) (n := 7)
        (fun j σ H' => ∃ (v2 : Option V), σ = [some (.ref a), some (.ref b), some (.ref c), some (.ref d), some (.int (cin st.here (nats ns) (ins i j) : Nat)), some (.int (1 + (i : Int))), v2] ∧ Same H4 H')
        ⟨v2, rfl, s5⟩ ?_ ?_⟩
      · rintro j σ H' hj ⟨v2, rfl, s6⟩
        have ec := cin_snoc st.here (nats ns) (ins i j) (i + 1, j + 1)
        rw [← ins_succ] at ec
        have ei : isIn st.here (nats ns) (i + 1, j + 1) = (!(Mu55.corners st.here (nats ns)).contains (⟨1 + (i : Int), 1 + (j : Int)⟩ : Pt) && Mu55.round_ st.here ⟨1 + (i : Int), 1 + (j : Int)⟩ (nats ns) != 0) := by
          unfold isIn
          rw [show (((i + 1, j + 1) : Nat × Nat).1 : Int) = 1 + (i : Int) by show ((i + 1 : Nat) : Int) = _; omega, show (((i + 1, j + 1) : Nat × Nat).2 : Int) = 1 + (j : Int) by show ((j + 1 : Nat) : Int) = _; omega]
        refine ⟨_, rfl, _, rfl, (by show 2 ≤ sizeLine; decide), fun t ht => ?_⟩
        have s7 := s6.trans (same_new (o := .tup [.int (1 + (i : Int)), .int (1 + (j : Int))]) ht)
        refine ⟨_, rfl, d, _, rfl, DGet.t (k := kP ⟨1 + (i : Int), 1 + (j : Int)⟩) (s7 _ _ hd) upd_same, _, rfl, ite2 (fun h5 => ?_) (fun h5 => ?_)⟩
        · rw [tab_get, vis_contains] at h5
          refine ⟨_, rfl, _, rfl, _, rfl, _, _, c, _, rfl, hR4.same s7, fun H8 s8 => ?_⟩
          have er : (List.map (fR (1 + (i : Int)) (1 + (j : Int))) (upr st.here.x st.here.y ns)).sum = Mu55.round_ st.here ⟨1 + (i : Int), 1 + (j : Int)⟩ (nats ns) := round_upr ⟨1 + (i : Int), 1 + (j : Int)⟩ ns st.here hst
          rw [er]
          rw [h5, Bool.true_and] at ei
          generalize Mu55.round_ st.here ⟨1 + (i : Int), 1 + (j : Int)⟩ (nats ns) = z at ei ⊢
          refine ⟨rfl, _, rfl, ite2 (fun h6 => ?_) (fun h6 => ?_)⟩
          · have h6 : z ≠ 0 := by
              intro e0
              subst e0
              revert h6
              simp
            rw [ei, if_pos (by simpa using h6)] at ec
            refine ⟨_, rfl, _, _, rfl, rfl, some (.int (1 + (j : Int))), ?_, s7.trans s8⟩
            rw [ec]
            rfl
          · have h6 : z = 0 := by
              apply Classical.byContradiction
              intro e0
              apply h6
              simpa using e0
            rw [ei, if_neg (by simpa using h6), Nat.add_zero] at ec
            refine ⟨some (.int (1 + (j : Int))), ?_, s7.trans s8⟩
            rw [ec]
            rfl
        · rw [tab_get, vis_contains] at h5
          have h5 : (!(Mu55.corners st.here (nats ns)).contains (⟨1 + (i : Int), 1 + (j : Int)⟩ : Pt)) = false := by simpa using h5
          rw [ei, h5, Bool.false_and, if_neg (by decide), Nat.add_zero] at ec
          refine iteF ⟨some (.int (1 + (j : Int))), ?_, s7⟩
          rw [ec]
          rfl
      · rintro σ H' ⟨v2, rfl, s6⟩
        show ∃ _ _, _
        rw [ins_next]
        exact ⟨_, _, rfl, s6⟩
    · rintro σ H' ⟨v1, v2, rfl, s6⟩
      have s16 := s14.trans s6
      refine ⟨_, rfl, _, rfl, d, _, rfl, s6 _ _ hd, (by show 2 ≤ sizeLine; decide), fun p hp => k _ p ⟨hon, dx, (same_new hp) _ _ (s16 _ _ hA)⟩ (Kept.of (s16.trans (same_new hp))) (s16.free hp) ?_⟩
      rw [upd_same, tab_len]
      rfl
/-! ### between -/
def spBetween (K : PySem.W.Frag) (C : Addr) : Sp := fun vs H Q _ => ∃ (a b c : Addr) (st : State) (ms ns : List Int), vs = [.ref a, .ref b, .ref c] ∧ PtrAt C H a (some st) ∧ SqL K H b (ms.map V.int) ∧ SqL K H c (ns.map V.int) ∧ NonNeg ms ∧ NonNeg ns ∧ After C a H (step (some st) (.between (nats ms) (nats ns))) Q
theorem sc_Pointer_between : FnScope ["self", "first", "second"] ["self", "first", "second"] (defScope s_Pointer_between) := ⟨rfl, rfl, rfl, by decide +kernel, rfl, by decide +kernel, by decide +kernel⟩
theorem ok_between {f : Addr} {fd : FuncData} (F : Fun K "between" "Pointer.between" s_Pointer_between f fd) (T : Txt K mg C) (G_is_way : Fn P w K mg base 2 "is_way" ["right", "up", "way"] (spWay K)) (G_end_of : Fn P w K mg base 1 "end_of" ["right", "up", "way"] (spEnd K))
    (G_turning : Fn P w K mg base 2 "turning" ["right", "up", "way"] (spTurn K)) : FnOk P w K mg base CX0 3 f fd ["self", "first", "second"] (spBetween K C) := by
  refine F.ok sc_Pointer_between (fun vs H Q E h => ?_) (fun cdv A outer s H vs Q E hr h => ?_)
  · obtain ⟨a, b, c, st, ms, ns, rfl, _⟩ := h
    rfl
  · obtain ⟨a, b, c, st, ms, ns, rfl, ⟨hon, dx, hA⟩, hS, hS', hm, hn, k⟩ := h
    refine ⟨_, (pss_cons (ps_if (PW.pt (pw_or (pt_not (pt_val (pe_fn G_is_way (hr.mono (by decide)) rfl (pa_cons (pe_fld (pv 0) rfl) (pa_cons (pe_fld (pv 0) rfl) (pa_cons (pv 1) pa_nil)))))) (pw_or1 (pt_not (pt_val (pe_fn G_is_way (hr.mono (by decide)) rfl (pa_cons (pe_fld (pv 0) rfl) (pa_cons (pe_fld (pv 0) rfl) (pa_cons (pv 2) pa_nil))))))))) 
        (pss_one (ps_ret (pe_lst (pa_cons (pe_gi rfl T.g_NOT_LET) pa_nil)))) pss_nil)
      (pss_cons (ps_if (pt_cmpR (op_neD hr.units) (pe_fn G_end_of (hr.mono (by decide)) rfl (pa_cons (pe_fld (pv 0) rfl) (pa_cons (pe_fld (pv 0) rfl) (pa_cons (pv 1) pa_nil)))) (pe_fn G_end_of (hr.mono (by decide)) rfl (pa_cons (pe_fld (pv 0) rfl) (pa_cons (pe_fld (pv 0) rfl) (pa_cons (pv 2) pa_nil)))) (nomark _)) 
        (pss_one (ps_ret (pe_lst (pa_cons (pe_gi rfl T.g_NO_LOOP) pa_nil)))) pss_nil)
      (pss_one (ps_ret (pe_lst (pa_cons (pe_int) (pa_cons (pe_op op_sub (pe_fn G_turning (hr.mono (by decide)) rfl (pa_cons (pe_fld (pv 0) rfl) (pa_cons (pe_fld (pv 0) rfl) (pa_cons (pv 1) pa_nil)))) (pe_fn G_turning (hr.mono (by decide)) rfl (pa_cons (pe_fld (pv 0) rfl) (pa_cons (pe_fld (pv 0) rfl) (pa_cons (pv 2) pa_nil))))) pa_nil))))))), ?_⟩
    have e : step (some st) (.between (nats ms) (nats ns)) = (some st, if isWay st (nats ms) = false ∨ isWay st (nats ns) = false then [-1] else if ending st.here (nats ms) ≠ ending st.here (nats ns) then [-6] else [0, turn st.here (nats ms) - turn st.here (nats ns)]) := rfl
    rw [e] at k
    refine ⟨_, rfl, a, C, dx, _, _, rfl, hA, T.cl, T.n_right, pf_right _ _ _ _ _, _, rfl, a, C, dx, _, _, rfl, hA, T.cl, T.n_up, pf_up _ _ _ _ _, _, rfl, _, _, b, ms, rfl, hS, hm, fun H1 s1 => ?_⟩
    have ew := isWay_good st (nats ms) hon
    rw [nats_len] at ew
    rw [show (⟨st.here.x, st.here.y⟩ : Pt) = st.here from rfl, ← ew]
    refine ⟨_, rfl, ite2 (fun h1 => ?_) (fun h1 => ?_)⟩
    · have h1 : isWay st (nats ms) = false := by simpa using h1
      rw [if_pos (.inl h1)] at k
      exact ⟨(by show 1 ≤ sizeLine; decide), fun p hp => k _ p ⟨hon, dx, (same_new hp) _ _ (s1 _ _ hA)⟩ (Kept.of (s1.trans (same_new hp))) (s1.free hp) upd_same⟩
    have h1 : isWay st (nats ms) = true := by simpa using h1
    have hst1 := isWay_steps hon hm h1
    have hl1 := isWay_len h1
    rw [nats_len] at hl1
    have hA1 := s1 _ _ hA
    refine ⟨_, rfl, a, C, dx, _, _, rfl, hA1, T.cl, T.n_right, pf_right _ _ _ _ _, _, rfl, a, C, dx, _, _, rfl, hA1, T.cl, T.n_up, pf_up _ _ _ _ _, _, rfl, _, _, c, ns, rfl, s1.seq hS', hn, fun H2 s2 => ?_⟩
    have ew2 := isWay_good st (nats ns) hon
    rw [nats_len] at ew2
    rw [show (⟨st.here.x, st.here.y⟩ : Pt) = st.here from rfl, ← ew2]
    have s12 := s1.trans s2
    refine ⟨_, rfl, ite2 (fun h2 => ?_) (fun h2 => ?_)⟩
    · have h2 : isWay st (nats ns) = false := by simpa using h2
      rw [if_pos (.inr h2)] at k
      exact ⟨(by show 1 ≤ sizeLine; decide), fun p hp => k _ p ⟨hon, dx, (same_new hp) _ _ (s12 _ _ hA)⟩ (Kept.of (s12.trans (same_new hp))) (s12.free hp) upd_same⟩
    have h2 : isWay st (nats ns) = true := by simpa using h2
    have hst2 := isWay_steps hon hn h2
    have hl2 := isWay_len h2
    rw [nats_len] at hl2
    rw [if_neg (by rw [h1, h2]; simp), ending_eq ms _ hst1, ending_eq ns _ hst2] at k
    have hA2 := s12 _ _ hA
    refine ⟨_, rfl, a, C, dx, _, _, rfl, hA2, T.cl, T.n_right, pf_right _ _ _ _ _, _, rfl, a, C, dx, _, _, rfl, hA2, T.cl, T.n_up, pf_up _ _ _ _ _, _, rfl, _, _, b, ms, rfl, s12.seq hS, fun H3 c3 s3 hn3 hc3 => ?_⟩
    have s13 := s12.trans s3
    have hA3 := s13 _ _ hA
    refine ⟨_, rfl, a, C, dx, _, _, rfl, hA3, T.cl, T.n_right, pf_right _ _ _ _ _, _, rfl, a, C, dx, _, _, rfl, hA3, T.cl, T.n_up, pf_up _ _ _ _ _, _, rfl, _, _, c, ns, rfl, s13.seq hS', fun H4 c4 s4 hn4 hc4 => ?_⟩
    have s14 := s13.trans s4
    refine ⟨.tuple [.int (endX st.here.x ms), .int (endY st.here.y ms)], .tuple [.int (endX st.here.x ns), .int (endY st.here.y ns)], .tup (SqT.of (s4 _ _ hc3)) (.cons (.int _) (.cons (.int _) .nil)), .tup (SqT.of hc4) (.cons (.int _) (.cons (.int _) .nil)), rfl, rfl, _, rfl, ite2 (fun h3 => ?_) (fun h3 => ?_)⟩
    · rw [eqv_pair] at h3
      have h3 : (⟨endX st.here.x ms, endY st.here.y ms⟩ : Pt) ≠ ⟨endX st.here.x ns, endY st.here.y ns⟩ := by
        intro z
        injection z with z1 z2
        rw [decide_eq_true ⟨z1, z2⟩] at h3
        cases h3
      rw [if_pos h3] at k
      exact ⟨(by show 1 ≤ sizeLine; decide), fun p hp => k _ p ⟨hon, dx, (same_new hp) _ _ (s14 _ _ hA)⟩ (Kept.of (s14.trans (same_new hp))) (s14.free hp) upd_same⟩
    · rw [eqv_pair] at h3
      have h3 : ¬ (⟨endX st.here.x ms, endY st.here.y ms⟩ : Pt) ≠ ⟨endX st.here.x ns, endY st.here.y ns⟩ := by
        intro z
        apply h3
        rw [decide_eq_false]
        · rfl
        · rintro ⟨z1, z2⟩
          exact z (by rw [z1, z2])
      rw [if_neg h3, ← turn_upr ms _ hst1, ← turn_upr ns _ hst2] at k
      have hA4 := s14 _ _ hA
      refine ⟨_, rfl, a, C, dx, _, _, rfl, hA4, T.cl, T.n_right, pf_right _ _ _ _ _, _, rfl, a, C, dx, _, _, rfl, hA4, T.cl, T.n_up, pf_up _ _ _ _ _, _, rfl, _, _, b, ms, rfl, s14.seq hS, by omega, fun H5 s5 => ?_⟩
      have s15 := s14.trans s5
      have hA5 := s15 _ _ hA
      refine ⟨_, rfl, a, C, dx, _, _, rfl, hA5, T.cl, T.n_right, pf_right _ _ _ _ _, _, rfl, a, C, dx, _, _, rfl, hA5, T.cl, T.n_up, pf_up _ _ _ _ _, _, rfl, _, _, c, ns, rfl, s15.seq hS', by omega, fun H6 s6 => ?_⟩
      have s16 := s15.trans s6
      exact ⟨_, _, rfl, rfl, (by show 2 ≤ sizeLine; decide), fun p hp => k _ p ⟨hon, dx, (same_new hp) _ _ (s16 _ _ hA)⟩ (Kept.of (s16.trans (same_new hp))) (s16.free hp) upd_same⟩
/-! ### straight -/
theorem sc_Pointer_straight : FnScope ["self", "way", "left"] ["self", "way"] (defScope s_Pointer_straight) := ⟨rfl, rfl, rfl, by decide +kernel, rfl, by decide +kernel, by decide +kernel⟩
theorem ok_straight {f : Addr} {fd : FuncData} (F : Fun K "straight" "Pointer.straight" s_Pointer_straight f fd) (T : Txt K mg C) (G_is_way : Fn P w K mg base 2 "is_way" ["right", "up", "way"] (spWay K)) (G_straightened : Fn P w K mg base 1 "straightened" ["way"] (spStraight K)) :
    FnOk P w K mg base CX0 3 f fd ["self", "way"] (spW K C .straight) := by
  refine F.ok sc_Pointer_straight (fun vs H Q E h => ?_) (fun cdv A outer s H vs Q E hr h => ?_)
  · obtain ⟨a, b, st, ns, rfl, _⟩ := h
    rfl
  · obtain ⟨a, b, st, ns, rfl, ⟨hon, dx, hA⟩, hS, hn, k⟩ := h
    refine ⟨_, (pss_cons (ps_if (pt_not (pt_val (pe_fn G_is_way (hr.mono (by decide)) rfl (pa_cons (pe_fld (pv 0) rfl) (pa_cons (pe_fld (pv 0) rfl) (pa_cons (pv 1) pa_nil)))))) 
        (pss_one (ps_ret (pe_lst (pa_cons (pe_gi rfl T.g_NOT_LET) pa_nil)))) pss_nil)
      (pss_cons (ps_set (i := 2) sc_Pointer_straight.nd rfl (Or.inl rfl) (pe_fn G_straightened (hr.mono (by decide)) rfl (pa_cons (pv 1) pa_nil)))
      (pss_one (ps_ret (pe_op op_cat (pe_lst (pa_cons (pe_callB call_len_seq (by rfl) T.b_len boot_len (pa_cons (pv 2) pa_nil)) pa_nil)) (pv 2)))))), ?_⟩
    refine ⟨_, rfl, a, C, dx, _, _, rfl, hA, T.cl, T.n_right, pf_right _ _ _ _ _, _, rfl, a, C, dx, _, _, rfl, hA, T.cl, T.n_up, pf_up _ _ _ _ _, _, rfl, _, _, b, ns, rfl, hS, hn, fun H1 s1 => ?_⟩
    have ew := isWay_good st (nats ns) hon
    rw [nats_len] at ew
    rw [show (⟨st.here.x, st.here.y⟩ : Pt) = st.here from rfl, ← ew]
    have e : step (some st) (.straight (nats ns)) = (some st, if isWay st (nats ns) = false then [-1] else Mu55.nums ((Mu55.straight (nats ns)).length :: Mu55.straight (nats ns))) := rfl
    rw [e] at k
    refine ⟨_, rfl, ite2 (fun h1 => ?_) (fun h1 => ?_)⟩
    · have h1 : isWay st (nats ns) = false := by simpa using h1
      rw [if_pos h1] at k
      exact ⟨(by show 1 ≤ sizeLine; decide), fun p hp => k _ p ⟨hon, dx, (same_new hp) _ _ (s1 _ _ hA)⟩ (Kept.of (s1.trans (same_new hp))) (s1.free hp) upd_same⟩
    have h1 : isWay st (nats ns) = true := by simpa using h1
    have hst := isWay_steps hon hn h1
    have hl := isWay_len h1
    rw [nats_len] at hl
    rw [if_neg (by rw [h1]; exact Bool.noConfusion)] at k
    refine ⟨_, rfl, b, ns, rfl, s1.seq hS, hst, by omega, fun H2 q s2 hq hlen hq2 => ?_⟩
    have s12 := s1.trans s2
    refine ⟨_, rfl, q, _, rfl, .inl (SqL.of hq2), (by show 1 ≤ sizeLine; decide), fun t ht => ?_⟩
    have s13 := s12.trans (same_new (o := .lst [.int ((vN (Mu55.straight (nats ns))).length : Nat)]) ht)
    refine ⟨_, rfl, t, q, _, _, rfl, rfl, upd_same, (same_new ht) _ _ hq2, (by rw [List.length_singleton, vN_len, sizeLine_eq]; omega), fun p hp => ?_⟩
    exact k _ p ⟨hon, dx, (same_new hp) _ _ (s13 _ _ hA)⟩ (Kept.of (s13.trans (same_new hp))) (s13.free hp) (by rw [upd_same, tell_eq])
/-! ### shortest -/
theorem short_len : ∀ n < 65, (Mu55.shortest n).length ≤ 100 := by decide +kernel
def spShortest (C : Addr) : Sp := fun vs H Q _ => ∃ (a : Addr) (n : Int) (st : State), vs = [.ref a, .int n] ∧ 0 ≤ n ∧ PtrAt C H a (some st) ∧ After C a H (step (some st) (.shortest n.toNat)) Q
theorem sc_Pointer_shortest : FnScope ["self", "squares", "loop"] ["self", "squares"] (defScope s_Pointer_shortest) := ⟨rfl, rfl, rfl, by decide +kernel, rfl, by decide +kernel, by decide +kernel⟩
theorem ok_shortest {f : Addr} {fd : FuncData} (F : Fun K "shortest" "Pointer.shortest" s_Pointer_shortest f fd) (T : Txt K mg C) (G_loop_round : Fn P w K mg base 2 "loop_round" ["squares"] spLoopRound) :
    FnOk P w K mg base CX0 3 f fd ["self", "squares"] (spShortest C) := by
  refine F.ok sc_Pointer_shortest (fun vs H Q E h => ?_) (fun cdv A outer s H vs Q E hr h => ?_)
  · obtain ⟨a, n, st, rfl, _⟩ := h
    rfl
  · obtain ⟨a, n, st, rfl, hn0, ⟨hon, dx, hA⟩, k⟩ := h
    refine ⟨_, (pss_cons (ps_if (pt_cmpR op_gt (pv 1) (pe_op op_mul (pe_gi rfl T.g_EDGE) (pe_gi rfl T.g_EDGE)) (nomark _)) 
        (pss_one (ps_ret (pe_lst (pa_cons (pe_gi rfl T.g_NOT_LET) pa_nil)))) pss_nil)
      (pss_cons (ps_set (i := 2) sc_Pointer_shortest.nd rfl (Or.inl rfl) (pe_fn G_loop_round (hr.mono (by decide)) rfl (pa_cons (pv 1) pa_nil)))
      (pss_one (ps_ret (pe_op op_cat (pe_lst (pa_cons (pe_callB call_len_seq (by rfl) T.b_len boot_len (pa_cons (pv 2) pa_nil)) pa_nil)) (pv 2)))))), ?_⟩
    have e : step (some st) (.shortest n.toNat) = (some st, if 64 < n.toNat then [-1] else Mu55.nums ((Mu55.shortest n.toNat).length :: Mu55.shortest n.toNat)) := rfl
    rw [e] at k
    refine ⟨_, rfl, _, _, rfl, rfl, .inl ⟨by decide, by decide⟩, _, _, rfl, rfl, _, rfl, ite2 (fun h1 => ?_) (fun h1 => ?_)⟩
    · have h1 : (8 * 8 : Int) < n := of_decide_eq_true h1
      rw [if_pos (by omega)] at k
      exact ⟨(by show 1 ≤ sizeLine; decide), fun p hp => k _ p ⟨hon, dx, (same_new hp) _ _ hA⟩ (Kept.of (same_new hp)) hp upd_same⟩
    have h1 : ¬ (8 * 8 : Int) < n := fun z => h1 (decide_eq_true z)
    rw [if_neg (by omega)] at k
    have hl := short_len n.toNat (by omega)
    refine ⟨_, rfl, n.toNat, (by rw [Int.toNat_of_nonneg hn0]; rfl), by omega, fun H2 q s2 hq hq2 => ?_⟩
    refine ⟨_, rfl, q, _, rfl, .inl (SqL.of hq2), (by show 1 ≤ sizeLine; decide), fun t ht => ?_⟩
    have s13 := s2.trans (same_new (o := .lst [.int ((vN (Mu55.shortest n.toNat)).length : Nat)]) ht)
    refine ⟨_, rfl, t, q, _, _, rfl, rfl, upd_same, (same_new ht) _ _ hq2, (by rw [List.length_singleton, vN_len, sizeLine_eq]; omega), fun p hp => ?_⟩
    exact k _ p ⟨hon, dx, (same_new hp) _ _ (s13 _ _ hA)⟩ (Kept.of (s13.trans (same_new hp))) (s13.free hp) (by rw [upd_same, tell_eq])
/-! ### home -/
def hw (x y : Nat) : List Int := List.replicate x 1 ++ List.replicate y 3
theorem hw_nats (x y : Nat) : nats (hw x y) = List.replicate x 1 ++ List.replicate y 3 := by
  unfold hw nats Mu55Neutral.nats
  rw [List.map_append, List.map_replicate, List.map_replicate]
  rfl
theorem hw_steps (x y : Nat) : Steps (hw x y) := by
  intro s hs
  unfold hw at hs
  rcases List.mem_append.mp hs with h | h
  · rw [List.eq_of_mem_replicate h]
    decide
  · rw [List.eq_of_mem_replicate h]
    decide
theorem hw_end {p : Pt} (h : onPaper p = true) : onPaper (ending p (nats (hw p.x.toNat p.y.toNat))) = true := by
  have := on_pt h
  rw [ending_eq _ _ (hw_steps _ _)]
  refine on_iff.mpr ?_
  unfold endX endY hw
  simp only [List.count_append, List.count_replicate]
  simp
  omega
theorem hw_map (x y : Nat) : (hw x y).map V.int = List.replicate x (.int 1) ++ List.replicate y (.int 3) := by
  unfold hw
  rw [List.map_append, List.map_replicate, List.map_replicate]
theorem hw_len (x y : Nat) : (hw x y).length = x + y := by
  unfold hw
  rw [List.length_append, List.length_replicate, List.length_replicate]
theorem sc_Pointer_home : FnScope ["self", "way"] ["self"] (defScope s_Pointer_home) := ⟨rfl, rfl, rfl, by decide +kernel, rfl, by decide +kernel, by decide +kernel⟩
theorem ok_home {f : Addr} {fd : FuncData} (F : Fun K "home" "Pointer.home" s_Pointer_home f fd) (T : Txt K mg C) (G_walk : Me P w K mg base C 3 "walk" ["self", "way"] (spWalk K C)) : FnOk P w K mg base CX0 4 f fd ["self"] (sp0 C .home) := by
  refine F.ok sc_Pointer_home (fun vs H Q E h => ?_) (fun cdv A outer s H vs Q E hr h => ?_)
  · obtain ⟨a, st, rfl, _⟩ := h
    rfl
  · obtain ⟨a, st, rfl, ⟨hon, dx, hA⟩, k⟩ := h
    have hb := on_pt hon
    refine ⟨_, (pss_cons (ps_set (i := 1) sc_Pointer_home.nd rfl (Or.inl rfl) (pe_op op_cat (pe_op op_rep (pe_lst (pa_cons (pe_gi rfl T.g_STEP_LEFT) pa_nil)) (pe_fld (pv 0) rfl)) (pe_op op_rep (pe_lst (pa_cons (pe_gi rfl T.g_STEP_DOWN) pa_nil)) (pe_fld (pv 0) rfl))))
      (pss_cons (ps_expr (pe_me (pv 0) T.cl G_walk (hr.mono (by decide)) (pa_cons (pv 1) pa_nil)))
      (pss_one (ps_ret (pe_op op_cat (pe_lst (pa_cons (pe_callB call_len_seq (by rfl) T.b_len boot_len (pa_cons (pv 1) pa_nil)) pa_nil)) (pv 1)))))), ?_⟩
    try dsimp only [gName, tSeq, tAsg, tRet]
    refine mk_use (mk_cat (mk_rep (mk_lst1 ev_c).mk (fun H1 s Q q => ⟨_, rfl, a, C, dx, _, _, rfl, s _ _ hA, T.cl, T.n_right, pf_right _ _ _ _ _, q⟩ : Ev _ _ H (.int st.here.x)) (by omega) (by omega)).mk (mk_rep (mk_lst1 ev_c).mk (fun H1 s Q q => ⟨_, rfl, a, C, dx, _, _, rfl, s _ _ hA, T.cl, T.n_up, pf_up _ _ _ _ _, q⟩ : Ev _ _ H (.int st.here.y)) (by omega) (by omega)).mk (by rw [List.length_replicate, List.length_replicate]; omega)) (fun H1 q s1 hnq hq => ?_)
    rw [← hw_map] at hq
    have hA1 := s1 _ _ hA
    have nqa : q ≠ a := (ne_of_none hA hnq).symm
    refine ⟨_, rfl, a, dx, _, rfl, hA1, pf_no_walk _ _ _ _ _, _, rfl, a, q, st, hw st.here.x.toNat st.here.y.toNat, rfl, ⟨hon, dx, hA1⟩, SqL.of hq, hw_steps _ _, (by rw [hw_len]; omega), hw_end hon, fun H2 hP2 k2 => ?_⟩
    obtain ⟨hon2, dx2, hA2⟩ := id hP2
    have hq2 := k2 _ _ hq nqa
    have hlen : ((hw st.here.x.toNat st.here.y.toNat).map V.int).length ≤ 100 := by
      rw [List.length_map, hw_len]
      omega
    refine ⟨_, rfl, q, _, rfl, .inl (SqL.of hq2), (by show 1 ≤ sizeLine; decide), fun t ht => ?_⟩
    have s3 := same_new (o := .lst [.int (((hw st.here.x.toNat st.here.y.toNat).map V.int).length : Nat)]) ht
    refine ⟨_, rfl, t, q, _, _, rfl, rfl, upd_same, s3 _ _ hq2, (by rw [List.length_singleton, sizeLine_eq]; omega), fun p hp => ?_⟩
    have npa : p ≠ a := fun z => by
      have := s3 _ _ hA2
      rw [z, this] at hp
      cases hp
    have e : step (some st) .home = (some ⟨ending st.here (nats (hw st.here.x.toNat st.here.y.toNat)), st.wheel + turn st.here (nats (hw st.here.x.toNat st.here.y.toNat)), st.steps + (nats (hw st.here.x.toNat st.here.y.toNat)).length⟩, Mu55.nums ((nats (hw st.here.x.toNat st.here.y.toNat)).length :: nats (hw st.here.x.toNat st.here.y.toNat))) := by
      rw [hw_nats]
      rfl
    rw [e] at k
    refine k _ p ((hP2.same s3).same (same_new hp)) (((Kept.of s1).trans k2).trans (Kept.of (s3.trans (same_new hp)))) (s1.free (k2.free npa (s3.free hp))) ?_
    have ev : (hw st.here.x.toNat st.here.y.toNat).map V.int = vN (nats (hw st.here.x.toNat st.here.y.toNat)) := by
      rw [hw_nats, hw_map]
      unfold vN
      rw [List.map_append, List.map_replicate, List.map_replicate]
      rfl
    rw [upd_same, ev, tell_eq]
/-! ### look -/
theorem sc_Pointer_look : FnScope ["self"] ["self"] (defScope s_Pointer_look) := ⟨rfl, rfl, rfl, by decide +kernel, rfl, by decide +kernel, by decide +kernel⟩
theorem ok_look {f : Addr} {fd : FuncData} (F : Fun K "look" "Pointer.look" s_Pointer_look f fd) (T : Txt K mg C) : FnOk P w K mg base CX0 1 f fd ["self"] (sp0 C .look) := by
  refine F.ok sc_Pointer_look (fun vs H Q E h => ?_) (fun cdv A outer s H vs Q E hr h => ?_)
  · obtain ⟨a, st, rfl, _⟩ := h
    rfl
  · obtain ⟨a, st, rfl, ⟨hon, dx, hA⟩, k⟩ := h
    refine ⟨_, (pss_one (ps_ret (pe_lst (pa_cons (pe_fld (pv 0) rfl) (pa_cons (pe_fld (pv 0) rfl) (pa_cons (pe_fld (pv 0) rfl) (pa_cons (pe_fld (pv 0) rfl) pa_nil))))))), ?_⟩
    refine ⟨_, rfl, a, C, dx, _, _, rfl, hA, T.cl, T.n_right, pf_right _ _ _ _ _, _, rfl, a, C, dx, _, _, rfl, hA, T.cl, T.n_up, pf_up _ _ _ _ _, _, rfl, a, C, dx, _, _, rfl, hA, T.cl, T.n_steps_made, pf_steps_made _ _ _ _ _, _, rfl, a, C, dx, _, _, rfl, hA, T.cl, T.n_wheel, pf_wheel _ _ _ _ _, (by show 4 ≤ sizeLine; decide), fun p hp => ?_⟩
    exact k _ p ⟨hon, dx, (same_new hp) _ _ hA⟩ (Kept.of (same_new hp)) hp upd_same
end
end WA
end
section
set_option Elab.async false
set_option linter.all false
set_option maxRecDepth 100000
set_option maxHeartbeats 2000000
namespace WA
open PySem PySem.Spec PyProof.Rows L2
/-- a row of numbers -/
def RowL (Z : Addr → Prop) (H : Hp) (b : Addr) (r : List Int) : Prop := Z b ∧ H b = some (.lst (r.map V.int))
/-- a call as the program keeps it: its number, its numbers, its rows -/
def CallAt (Z : Addr → Prop) (H : Hp) (a : Addr) (c : List (List Int)) : Prop :=
  Z a ∧ ∃ (p : Int) (xs : List Int) (rows : List (List Int)) (bs : List Addr), c = (p :: xs) :: rows ∧ H a = some (.lst ((p :: xs).map V.int ++ bs.map V.ref)) ∧ Paired (RowL Z H) bs rows
theorem CallAt.imp {Z Z' : Addr → Prop} {H H' : Hp} {a : Addr} {c : List (List Int)} (hZ : ∀ b, Z b → Z' b) (hH : ∀ b xs, Z b → H b = some (.lst xs) → H' b = some (.lst xs)) (h : CallAt Z H a c) : CallAt Z' H' a c := by
  obtain ⟨z, p, xs, rows, bs, e, ha, hp⟩ := h
  exact ⟨hZ _ z, p, xs, rows, bs, e, hH _ _ z ha, Paired.mapP hp fun b r hb => ⟨hZ _ hb.1, hH _ _ hb.1 hb.2⟩⟩
theorem cut_nat {xs : List V} {i j : Nat} (h1 : i ≤ j) (h2 : j ≤ xs.length) : cutV xs (some (i : Int)) (some (j : Int)) = (xs.drop i).take (j - i) := by
  unfold cutV
  rw [HT.sIx_nat, HT.sIx_nat, Nat.min_eq_left h2, Nat.min_eq_left (Nat.le_trans h1 h2)]
theorem cut_ints {l : List Int} {i j : Nat} (h1 : i ≤ j) (h2 : j ≤ l.length) : cutV (l.map V.int) (some (i : Int)) (some (j : Int)) = ((l.drop i).take (j - i)).map V.int := by
  rw [cut_nat h1 (by rw [List.length_map]; exact h2), ← List.map_drop, ← List.map_take]
theorem ints_at {l : List Int} {i : Nat} {p : Int} {r : List Int} (h : l.drop i = p :: r) : (l.map V.int)[i]? = some (.int p) ∧ r = l.drop (i + 1) ∧ i < l.length := by
  have hl : i < l.length := by
    have := congrArg List.length h
    rw [List.length_drop, List.length_cons] at this
    omega
  rw [List.drop_eq_getElem_cons hl] at h
  injection h with h1 h2
  refine ⟨?_, h2.symm, hl⟩
  rw [List.getElem?_map, List.getElem?_eq_getElem hl, h1]
  rfl
section
variable {P : Program} {w : World} {K : PySem.W.Frag} {mg : Str → Option Value} {base : Heap} {C : Addr}
/-- the tables' words -/
def Tables (TN TW : List V) : Prop := ∀ (p : Int) (n k : Nat), PyMu55.shape p = some (n, k) → n ≤ 2 ∧ k ≤ 2 ∧ atI TN p = some (.int (n : Int)) ∧ atI TW p = some (.int (k : Int))
def spSplit (K : PySem.W.Frag) : Sp := fun vs H Q _ => ∃ (a : Addr) (l : List Int) (raw : List (List (List Int))), vs = [.ref a] ∧ SqL K H a (l.map V.int) ∧ l.length ≤ 10000 ∧ PyFlat.calls PyMu55.shape l.length l = some raw ∧
  ∀ (H' : Hp) (q : Addr) (as : List Addr), Same H H' → H q = Option.none → H' q = some (.lst (as.map V.ref)) → Paired (CallAt (fun b => b ≠ q ∧ H b = Option.none) H') as raw → Q (.ref q) H'
theorem sc_split_calls : FnScope ["calls", "found", "at", "number", "ways_begin", "call", "nth", "way_end"] ["calls"] (defScope s_split_calls) := ⟨rfl, rfl, rfl, by decide +kernel, rfl, by decide +kernel, by decide +kernel⟩
theorem ok_split {f : Addr} {fd : FuncData} (F : Fun K "split_calls" "split_calls" s_split_calls f fd) (T : Txt K mg C) (hTab : Tables [.int (2), .int (0), .int (0), .int (0), .int (2), .int (0), .int (0), .int (0), .int (0), .int (1), .int (0), .int (0)] [.int (0), .int (1), .int (0), .int (1), .int (1), .int (1), .int (1), .int (2), .int (1), .int (0), .int (0), .int (0)]) : FnOk P w K mg base CX0 1 f fd ["calls"] (spSplit K) := by
  refine F.ok sc_split_calls (fun vs H Q E h => ?_) (fun cdv A outer s H vs Q E hr h => ?_)
  · obtain ⟨a, l, raw, rfl, _⟩ := h
    rfl
  · obtain ⟨a, l, raw, rfl, hS, hlen, hraw, k⟩ := h
    refine ⟨_, (pss_cons (ps_set (i := 1) sc_split_calls.nd rfl (Or.inl rfl) (pe_lst pa_nil))
      (pss_cons (ps_set (i := 2) sc_split_calls.nd rfl (Or.inl rfl) (pe_int))
      (pss_cons (ps_while PassesOwn.never (pt_cmpR op_lt (pv 2) (pe_callB call_len_seq (by rfl) T.b_len boot_len (pa_cons (pv 0) pa_nil)) (nomark _)) 
        (pss_cons (ps_set (i := 3) sc_split_calls.nd rfl (Or.inl rfl) (pe_ix ix_list (pv 0) (pv 2) (fun _ _ => rfl)))
        (pss_cons (ps_set (i := 4) sc_split_calls.nd rfl (Or.inl rfl) (pe_op op_add (pe_op op_add (pv 2) (pe_int)) (pe_ix ix_tup (pe_gtup rfl T.g_NUMBERS_OF) (pv 3) (fun _ _ => rfl))))
        (pss_cons (ps_set (i := 5) sc_split_calls.nd rfl (Or.inl rfl) (pe_slice sl_list (pv 0) (po_some (pv 2)) (po_some (pv 4))))
        (pss_cons (ps_set (i := 2) sc_split_calls.nd rfl (Or.inl rfl) (pv 4))
        (pss_cons (ps_for PassesOwn.never rfl (pi_range1 rfl T.b_range (pa_cons (pe_ix ix_tup (pe_gtup rfl T.g_WAYS_OF) (pv 3) (fun _ _ => rfl)) pa_nil)) (pg_name (i := 6) sc_split_calls.nd rfl (Or.inl rfl)) 
          (pss_cons (ps_set (i := 7) sc_split_calls.nd rfl (Or.inl rfl) (pe_op op_add (pe_op op_add (pv 2) (pe_int)) (pe_ix ix_list (pv 0) (pv 2) (fun _ _ => rfl))))
          (pss_cons (ps_expr (pe_bm PySem.F.plainAttrs_list PySem.F.slot_list_append PySem.F.type_list_append mt_append (pv 5) (pa_cons (pe_slice sl_list (pv 0) (po_some (pe_op op_add (pv 2) (pe_int))) (po_some (pv 7))) pa_nil)))
          (pss_one (ps_set (i := 2) sc_split_calls.nd rfl (Or.inl rfl) (pv 7))))))
        (pss_one (ps_expr (pe_bm PySem.F.plainAttrs_list PySem.F.slot_list_append PySem.F.type_list_append mt_append (pv 1) (pa_cons (pv 5) pa_nil))))))))))
      (pss_one (ps_ret (pv 1)))))), ?_⟩
    refine ⟨Nat.zero_le _, fun q hq => ?_⟩
    refine ⟨fun m σ H' => ∃ (t : Nat) (z : Int) (v3 v4 v5 v6 v7 : Option V) (as : List Addr) (done rest : List (List (List Int))) (fu : Nat), m = l.length - t ∧ σ = [some (.ref a), some (.ref q), some (.int z), v3, v4, v5, v6, v7] ∧ z = (t : Int) ∧ t ≤ l.length ∧ Same H H' ∧ H' q = some (.lst (as.map V.ref)) ∧
      Paired (CallAt (fun b => b ≠ q ∧ H b = Option.none) H') as done ∧ as.length ≤ t ∧ PyFlat.calls PyMu55.shape fu (l.drop t) = some rest ∧ done ++ rest = raw,
      ⟨_, 0, 0, none, none, none, none, none, [], [], raw, l.length, rfl, rfl, rfl, Nat.zero_le _, same_new hq, upd_same, .nil, Nat.le_refl _, hraw, rfl⟩, ?_⟩
    rintro m σ H1 ⟨t, z, v3, v4, v5, v6, v7, as, done, rest, fu, rfl, rfl, rfl, ht, s1, hq1, hP, hal, hcs, hdr⟩
    have hS1 := s1.seq hS
    refine ⟨_, rfl, _, rfl, a, _, rfl, .inl hS1, _, _, rfl, rfl, _, rfl, ite2 (fun hlt => ?_) (fun hlt => ?_)⟩
    · have hlt : t < l.length := by
        have hlt : (t : Int) < ((l.map V.int).length : Int) := of_decide_eq_true hlt
        rw [List.length_map] at hlt
        omega
      obtain ⟨p, r, hpr⟩ : ∃ p r, l.drop t = p :: r := ⟨_, _, List.drop_eq_getElem_cons hlt⟩
      rw [hpr] at hcs
      obtain ⟨fu', n, kk, xs, tl, cs, hsh, hnr, hrows, hcs', rfl⟩ := flat_calls hcs
      obtain ⟨hget, rfl, _⟩ := ints_at hpr
      obtain ⟨hn2, hk2, hTN, hTW⟩ := hTab p n kk hsh
      rw [List.length_drop] at hnr
      rw [List.drop_drop] at hrows
      refine ⟨_, (fun σ' H' (h' : ∃ (t' : Nat) (z : Int) (v3 v4 v5 v6 v7 : Option V) (as' : List Addr) (done' : List (List (List Int))), t < t' ∧ σ' = [some (.ref a), some (.ref q), some (.int z), v3, v4, v5, v6, v7] ∧ z = (t' : Int) ∧ t' ≤ l.length ∧ Same H H' ∧ H' q = some (.lst (as'.map V.ref)) ∧
        Paired (CallAt (fun b => b ≠ q ∧ H b = Option.none) H') as' done' ∧ as'.length ≤ t' ∧ l.drop t' = tl ∧ done' ++ cs = raw) => ?_), ?_⟩
      · obtain ⟨t', z, v3, v4, v5, v6, v7, as', done', h1, h2, h3, h4, h5, h6, h7, h8, h9, h10⟩ := h'
        exact ⟨l.length - t', by omega, t', z, v3, v4, v5, v6, v7, as', done', cs, fu', rfl, h2, h3, h4, h5, h6, h7, h8, by rw [h9]; exact hcs', h10⟩
      -- number = calls[at]
      refine ⟨_, rfl, _, rfl, a, _, _, _, rfl, rfl, hS1, at_of rfl hget, ?_⟩
      -- ways_begin
      refine ⟨_, rfl, _, _, rfl, rfl, fun aN hN => ⟨_, rfl, aN, _, _, _, rfl, rfl, hN, hTN, _, _, rfl, rfl, ?_⟩⟩
      -- call = calls[at:ways_begin]
      refine ⟨_, rfl, _, rfl, _, rfl, _, rfl, _, rfl, a, _, rfl, hS1, fun c hc => ?_⟩
      have hcut : cutV (l.map V.int) (some (t : Int)) (some ((t : Int) + 1 + (n : Int))) = (p :: (l.drop (t + 1)).take n).map V.int := by
        rw [show (t : Int) + 1 + (n : Int) = ((t + 1 + n : Nat) : Int) by omega, cut_ints (by omega) (by omega), hpr, show t + 1 + n - t = n + 1 by omega, List.take_succ_cons]
      refine ⟨_, rfl, ?_⟩
      have nqc : c ≠ q := (ne_of_none hq1 hc).symm
      have hcH : H c = Option.none := s1.free hc
      -- the rows
      refine fun aW hW => ⟨_, rfl, aW, _, _, _, rfl, rfl, hW, hTW, (kk : Int), rfl, by omega, by omega, for_range (lo := 0) (n := kk)
        (fun i σ H' => ∃ (ti : Nat) (z : Int) (v4 v6 v7 : Option V) (bs : List Addr) (rd rr : List (List Int)), σ = [some (.ref a), some (.ref q), some (.int z), some (.int p), v4, some (.ref c), v6, v7] ∧ z = (ti : Int) ∧ t < ti ∧ ti ≤ l.length ∧ Same H1 H' ∧
          H' c = some (.lst ((p :: (l.drop (t + 1)).take n).map V.int ++ bs.map V.ref)) ∧ Paired (RowL (fun b => b ≠ c ∧ b ≠ q ∧ H b = Option.none) H') bs rd ∧ bs.length ≤ i ∧ PyFlat.rows (kk - i) (l.drop ti) = some (rr, tl) ∧ rd ++ rr = xs)
        ⟨t + 1 + n, _, _, _, _, [], [], xs, rfl, by show (t : Int) + 1 + (n : Int) = _; omega, by omega, by omega, same_new hc, Eq.trans upd_same (congrArg (fun z => some (HO.lst z)) (hcut.trans (List.append_nil _).symm)), .nil, Nat.le_refl _, hrows, rfl⟩ ?_ ?_⟩
      · rintro i σ H2 hi ⟨ti, z, v4, v6, v7, bs, rd, rr, rfl, rfl, htt, hti, s2, hc2, hB, hbl, hrr, hdd⟩
        rw [show kk - i = (kk - (i + 1)) + 1 by omega] at hrr
        obtain ⟨nn, r', ys, hd, hnn, hnl, hrr', rfl⟩ := flat_rows hrr
        obtain ⟨hget2, rfl, hti2⟩ := ints_at hd
        rw [List.length_drop] at hnl
        rw [List.drop_drop] at hrr'
        have hS2 := s2.seq hS1
        refine ⟨_, rfl, _, _, rfl, rfl, _, rfl, _, rfl, a, _, _, _, rfl, rfl, hS2, at_of rfl hget2, _, _, rfl, rfl, ?_⟩
        refine ⟨_, rfl, .inl ⟨rfl, _, SqL.of hc2⟩, _, rfl, _, rfl, _, _, rfl, rfl, _, rfl, _, rfl, _, rfl, a, _, rfl, hS2, fun b hb => ?_⟩
        have hcut2 : cutV (l.map V.int) (some ((ti : Int) + 1)) (some ((ti : Int) + 1 + nn)) = ((l.drop (ti + 1)).take nn.toNat).map V.int := by
          rw [show (ti : Int) + 1 + nn = ((ti + 1 + nn.toNat : Nat) : Int) by omega, show (ti : Int) + 1 = ((ti + 1 : Nat) : Int) by omega, cut_ints (by omega) (by omega), show ti + 1 + nn.toNat - (ti + 1) = nn.toNat by omega]
        have nbc : b ≠ c := (ne_of_none hc2 hb).symm
        have hb1 : H1 b = Option.none := s2.free hb
        have nbq : b ≠ q := (ne_of_none hq1 hb1).symm
        have s3 := same_new (o := .lst (cutV (l.map V.int) (some ((ti : Int) + 1)) (some ((ti : Int) + 1 + nn)))) hb
        have hlen3 : (((p :: (l.drop (t + 1)).take n).map V.int ++ bs.map V.ref)).length < sizeLine := by
          rw [List.length_append, List.length_map, List.length_map, List.length_cons, List.length_take]
          exact small1000 (by omega)
        refine ⟨c, _, _, rfl, rfl, s3 _ _ hc2, hlen3, ?_⟩
        refine ⟨_, rfl, ti + 1 + nn.toNat, _, _, _, _, bs ++ [b], rd ++ [(l.drop (ti + 1)).take nn.toNat], ys, rfl, by show (ti : Int) + 1 + nn = _; omega, by omega, by omega, ?_, ?_, ?_, ?_, ?_, ?_⟩
        · intro d o e
          rw [upd_ne (ne_of_none e hc)]
          exact s3 _ _ (s2 _ _ e)
        · rw [upd_same, List.map_append, List.append_assoc]
          rfl
        · refine Paired.snoc (Paired.mapP hB fun d r hd' => ⟨hd'.1, ?_⟩) ⟨⟨nbc, nbq, s1.free hb1⟩, ?_⟩
          · rw [upd_ne hd'.1.1]
            exact s3 _ _ hd'.2
          · rw [upd_ne nbc]
            exact Eq.trans upd_same (congrArg (fun z => some (HO.lst z)) hcut2)
        · rw [List.length_append]
          exact Nat.add_le_add_right hbl 1
        · rw [show ti + 1 + nn.toNat = (ti + 1) + nn.toNat from rfl]
          exact hrr'
        · rw [List.append_assoc]
          exact hdd
      · rintro σ H2 ⟨ti, z, v4, v6, v7, bs, rd, rr, rfl, rfl, htt, hti, s2, hc2, hB, hbl, hrr, hdd⟩
        rw [Nat.sub_self] at hrr
        obtain ⟨rfl, rfl⟩ := flat_rows0 hrr
        rw [List.append_nil] at hdd
        subst hdd
        have hq2 := s2 _ _ hq1
        refine ⟨_, rfl, .inl ⟨rfl, _, SqL.of hq2⟩, _, rfl, q, _, _, rfl, rfl, hq2, (by rw [List.length_map]; exact Nat.lt_of_le_of_lt (show as.length ≤ 10000 by omega) (by decide)), ?_⟩
        refine ⟨ti, _, _, _, _, _, _, as ++ [c], done ++ [(p :: (l.drop (t + 1)).take n) :: rd], htt, rfl, rfl, hti, ?_, ?_, ?_, ?_, rfl, ?_⟩
        · intro d o e
          rw [upd_ne (ne_of_none e hq)]
          exact s2 _ _ (s1 _ _ e)
        · rw [upd_same, List.map_append]
          rfl
        · refine Paired.snoc (Paired.mapP hP fun d r hd' => hd'.imp (fun _ z => z) fun b ys hz hb => ?_) ⟨⟨nqc, hcH⟩, p, _, rd, bs, rfl, ?_, Paired.mapP hB fun d r hd' => ⟨hd'.1.2, ?_⟩⟩
          · rw [upd_ne hz.1]
            exact s2 _ _ hb
          · rw [upd_ne nqc]
            exact hc2
          · rw [upd_ne hd'.1.2.1]
            exact hd'.2
        · rw [List.length_append, List.length_singleton]
          omega
        · rw [List.append_assoc]
          exact hdr
    · have hlt : l.drop t = [] := by
        have hlt : ¬ (t : Int) < ((l.map V.int).length : Int) := fun q => hlt (decide_eq_true q)
        rw [List.length_map] at hlt
        exact List.drop_eq_nil_of_le (by omega)
      rw [hlt] at hcs
      have e := flat_nil hcs
      subst e
      rw [List.append_nil] at hdr
      subst hdr
      exact ⟨_, rfl, k _ q as s1 hq hq1 hP⟩
end
end WA
end
section
set_option Elab.async false
set_option linter.all false
set_option maxRecDepth 100000
set_option maxHeartbeats 2000000
namespace WA
open PySem PySem.Spec PyProof.Rows L2
open Mu55 (Pt onPaper State)
theorem call_rows0 {Z : Addr → Prop} {H : Hp} {b : Addr} {p : Int} {xs : List Int} (h : CallAt Z H b [p :: xs]) : H b = some (.lst ((p :: xs).map V.int)) := by
  obtain ⟨_, p', xs', rows, bs, e, hb, hp⟩ := h
  cases e
  cases hp
  rw [hb]
  simp
theorem call_rows1 {Z : Addr → Prop} {H : Hp} {b : Addr} {p : Int} {xs w : List Int} (h : CallAt Z H b [p :: xs, w]) : ∃ b1, H b = some (.lst ((p :: xs).map V.int ++ [.ref b1])) ∧ H b1 = some (.lst (w.map V.int)) := by
  obtain ⟨_, p', xs', rows, bs, e, hb, hp⟩ := h
  cases e
  cases hp with
  | cons h1 h2 =>
    cases h2
    exact ⟨_, hb, h1.2⟩
theorem call_rows2 {Z : Addr → Prop} {H : Hp} {b : Addr} {p : Int} {xs v w : List Int} (h : CallAt Z H b [p :: xs, v, w]) : ∃ b1 b2, H b = some (.lst ((p :: xs).map V.int ++ [.ref b1, .ref b2])) ∧ H b1 = some (.lst (v.map V.int)) ∧ H b2 = some (.lst (w.map V.int)) := by
  obtain ⟨_, p', xs', rows, bs, e, hb, hp⟩ := h
  cases e
  cases hp with
  | cons h1 h2 =>
    cases h2 with
    | cons h3 h4 =>
      cases h4
      exact ⟨_, _, hb, h1.2, h3.2⟩
def spAnswer (K : PySem.W.Frag) (C : Addr) : Sp := fun vs H Q _ => ∃ (a b : Addr) (o : Mu55.Abs) (Z : Addr → Prop) (c : List (List Int)), vs = [.ref a, .ref b] ∧ PtrAt C H a o ∧ CallAt Z H b c ∧ Form c ∧ After C a H (Mu55Neutral.step o c) Q
section
variable {P : Program} {w : World} {K : PySem.W.Frag} {mg : Str → Option Value} {base : Heap} {C : Addr}
theorem sc_Pointer_answer : FnScope ["self", "call", "number"] ["self", "call"] (defScope s_Pointer_answer) := ⟨rfl, rfl, rfl, by decide +kernel, rfl, by decide +kernel, by decide +kernel⟩
theorem ok_answer {f : Addr} {fd : FuncData} (F : Fun K "answer" "Pointer.answer" s_Pointer_answer f fd) (T : Txt K mg C)
    (G_begin : Me P w K mg base C 1 "begin" ["self", "right", "up"] (spBegin C))
    (G_go : Me P w K mg base C 4 "go" ["self", "way"] (spW K C .go))
    (G_zero : Me P w K mg base C 1 "zero" ["self"] (sp0 C .zero))
    (G_area : Me P w K mg base C 3 "area" ["self", "way"] (spW K C .area))
    (G_round_square : Me P w K mg base C 3 "round_square" ["self", "square_right", "square_up", "way"] (spRound K C))
    (G_squares : Me P w K mg base C 3 "squares" ["self", "way"] (spW K C .squares))
    (G_corners : Me P w K mg base C 3 "corners" ["self", "way"] (spW K C .corners))
    (G_between : Me P w K mg base C 3 "between" ["self", "first", "second"] (spBetween K C))
    (G_straight : Me P w K mg base C 3 "straight" ["self", "way"] (spW K C .straight))
    (G_shortest : Me P w K mg base C 3 "shortest" ["self", "squares"] (spShortest C))
    (G_home : Me P w K mg base C 4 "home" ["self"] (sp0 C .home))
    (G_look : Me P w K mg base C 1 "look" ["self"] (sp0 C .look)) :
    FnOk P w K mg base CX0 5 f fd ["self", "call"] (spAnswer K C) := by
  refine F.ok sc_Pointer_answer (fun vs H Q E h => ?_) (fun cdv A outer s H vs Q E hr h => ?_)
  · obtain ⟨a, b, o, Z, c, rfl, _⟩ := h
    rfl
  · obtain ⟨a, b, o, Z, c, rfl, hP, hC, hF, k⟩ := h
    refine ⟨_, (pss_cons (ps_set (i := 2) sc_Pointer_answer.nd rfl (Or.inl rfl) (pe_ix ix_list (pv 1) (pe_int) (fun _ _ => rfl)))
      (pss_cons (ps_if (pt_cmpR op_eq (pv 2) (pe_gi rfl T.g_BEGIN) (nomark _)) 
        (pss_one (ps_ret (pe_me (pv 0) T.cl G_begin (hr.mono (by decide)) (pa_cons (pe_ix ix_list (pv 1) (pe_int) (fun _ _ => rfl)) (pa_cons (pe_ix ix_list (pv 1) (pe_int) (fun _ _ => rfl)) pa_nil))))) pss_nil)
      (pss_cons (ps_if (pt_not (pt_val (pe_fld (pv 0) rfl))) 
        (pss_one (ps_ret (pe_lst (pa_cons (pe_gi rfl T.g_NO_PAPER) pa_nil)))) pss_nil)
      (pss_cons (ps_if (pt_cmpR op_eq (pv 2) (pe_gi rfl T.g_GO) (nomark _)) 
        (pss_one (ps_ret (pe_me (pv 0) T.cl G_go (hr.mono (by decide)) (pa_cons (pe_ix ix_list (pv 1) (pe_int) (fun _ _ => rfl)) pa_nil)))) pss_nil)
      (pss_cons (ps_if (pt_cmpR op_eq (pv 2) (pe_gi rfl T.g_ZERO) (nomark _)) 
        (pss_one (ps_ret (pe_me0 (pv 0) T.cl G_zero (hr.mono (by decide))))) pss_nil)
      (pss_cons (ps_if (pt_cmpR op_eq (pv 2) (pe_gi rfl T.g_AREA) (nomark _)) 
        (pss_one (ps_ret (pe_me (pv 0) T.cl G_area (hr.mono (by decide)) (pa_cons (pe_ix ix_list (pv 1) (pe_int) (fun _ _ => rfl)) pa_nil)))) pss_nil)
      (pss_cons (ps_if (pt_cmpR op_eq (pv 2) (pe_gi rfl T.g_ROUND) (nomark _)) 
        (pss_one (ps_ret (pe_me (pv 0) T.cl G_round_square (hr.mono (by decide)) (pa_cons (pe_ix ix_list (pv 1) (pe_int) (fun _ _ => rfl)) (pa_cons (pe_ix ix_list (pv 1) (pe_int) (fun _ _ => rfl)) (pa_cons (pe_ix ix_list (pv 1) (pe_int) (fun _ _ => rfl)) pa_nil)))))) pss_nil)
      (pss_cons (ps_if (pt_cmpR op_eq (pv 2) (pe_gi rfl T.g_SQUARES) (nomark _)) 
        (pss_one (ps_ret (pe_me (pv 0) T.cl G_squares (hr.mono (by decide)) (pa_cons (pe_ix ix_list (pv 1) (pe_int) (fun _ _ => rfl)) pa_nil)))) pss_nil)
      (pss_cons (ps_if (pt_cmpR op_eq (pv 2) (pe_gi rfl T.g_CORNERS) (nomark _)) 
        (pss_one (ps_ret (pe_me (pv 0) T.cl G_corners (hr.mono (by decide)) (pa_cons (pe_ix ix_list (pv 1) (pe_int) (fun _ _ => rfl)) pa_nil)))) pss_nil)
      (pss_cons (ps_if (pt_cmpR op_eq (pv 2) (pe_gi rfl T.g_BETWEEN) (nomark _)) 
        (pss_one (ps_ret (pe_me (pv 0) T.cl G_between (hr.mono (by decide)) (pa_cons (pe_ix ix_list (pv 1) (pe_int) (fun _ _ => rfl)) (pa_cons (pe_ix ix_list (pv 1) (pe_int) (fun _ _ => rfl)) pa_nil))))) pss_nil)
      (pss_cons (ps_if (pt_cmpR op_eq (pv 2) (pe_gi rfl T.g_STRAIGHT) (nomark _)) 
        (pss_one (ps_ret (pe_me (pv 0) T.cl G_straight (hr.mono (by decide)) (pa_cons (pe_ix ix_list (pv 1) (pe_int) (fun _ _ => rfl)) pa_nil)))) pss_nil)
      (pss_cons (ps_if (pt_cmpR op_eq (pv 2) (pe_gi rfl T.g_SHORTEST) (nomark _)) 
        (pss_one (ps_ret (pe_me (pv 0) T.cl G_shortest (hr.mono (by decide)) (pa_cons (pe_ix ix_list (pv 1) (pe_int) (fun _ _ => rfl)) pa_nil)))) pss_nil)
      (pss_cons (ps_if (pt_cmpR op_eq (pv 2) (pe_gi rfl T.g_HOME) (nomark _)) 
        (pss_one (ps_ret (pe_me0 (pv 0) T.cl G_home (hr.mono (by decide))))) pss_nil)
      (pss_one (ps_ret (pe_me0 (pv 0) T.cl G_look (hr.mono (by decide)))))))))))))))))), ?_⟩
    have noPaper : o = none → (∀ x y, c ≠ [[0, x, y]]) → ∀ p, H p = Option.none → Q (.ref p) (upd H p (.lst [.int (-9)])) := fun ho hc p hp => by
      have e : Mu55Neutral.step o c = (none, [-9]) := by
        subst ho
        cases hF with
        | begin_ x y => exact absurd rfl (hc x y)
        | _ => rfl
      rw [e] at k
      subst ho
      exact k _ p (hP.same (same_new hp)) (Kept.of (same_new hp)) hp upd_same
    cases hF with
    | begin_ x y hx hy =>
      have hb := call_rows0 hC
      obtain ⟨dx, b0, x0, y0, w0, n0, hA⟩ := hP.any
      refine ⟨_, rfl, b, _, _, _, rfl, rfl, SqL.of hb, rfl, _, rfl, rfl, _, rfl, iteT ?_⟩
      exact ⟨_, rfl, a, dx, _, rfl, hA, pf_no_begin _ _ _ _ _, _, rfl, b, _, _, _, rfl, rfl, SqL.of hb, rfl, _, rfl, b, _, _, _, rfl, rfl, SqL.of hb, rfl, a, x, y, o, rfl, hP, hx, hy, k⟩
    | go ws hw =>
      obtain ⟨b1, hb, hb1⟩ := call_rows1 hC
      refine ⟨_, rfl, b, _, _, _, rfl, rfl, SqL.of hb, rfl, _, rfl, rfl, _, rfl, iteF ?_⟩
      cases o with
      | none =>
        obtain ⟨dx, x0, y0, w0, n0, hA⟩ := hP
        exact ⟨_, rfl, a, C, dx, _, _, rfl, hA, T.cl, T.n_has_paper, pf_has_paper _ _ _ _ _, _, rfl, iteT ⟨(by show 1 ≤ sizeLine; decide), noPaper rfl (by intro x y z; cases z)⟩⟩
      | some st =>
        obtain ⟨hon, dx, hA⟩ := id hP
        refine ⟨_, rfl, a, C, dx, _, _, rfl, hA, T.cl, T.n_has_paper, pf_has_paper _ _ _ _ _, _, rfl, iteF ?_⟩
        refine ⟨_, rfl, rfl, _, rfl, iteT ?_⟩
        exact ⟨_, rfl, a, dx, _, rfl, hA, pf_no_go _ _ _ _ _, _, rfl, b, _, _, _, rfl, rfl, SqL.of hb, rfl, a, b1, st, ws, rfl, hP, SqL.of hb1, hw, k⟩
    | zero =>
      have hb := call_rows0 hC
      refine ⟨_, rfl, b, _, _, _, rfl, rfl, SqL.of hb, rfl, _, rfl, rfl, _, rfl, iteF ?_⟩
      cases o with
      | none =>
        obtain ⟨dx, x0, y0, w0, n0, hA⟩ := hP
        exact ⟨_, rfl, a, C, dx, _, _, rfl, hA, T.cl, T.n_has_paper, pf_has_paper _ _ _ _ _, _, rfl, iteT ⟨(by show 1 ≤ sizeLine; decide), noPaper rfl (by intro x y z; cases z)⟩⟩
      | some st =>
        obtain ⟨hon, dx, hA⟩ := id hP
        refine ⟨_, rfl, a, C, dx, _, _, rfl, hA, T.cl, T.n_has_paper, pf_has_paper _ _ _ _ _, _, rfl, iteF ?_⟩
        refine ⟨_, rfl, rfl, _, rfl, iteF ?_⟩
        refine ⟨_, rfl, rfl, _, rfl, iteT ?_⟩
        exact ⟨_, rfl, a, dx, _, rfl, hA, pf_no_zero _ _ _ _ _, a, st, rfl, hP, k⟩
    | area ws hw =>
      obtain ⟨b1, hb, hb1⟩ := call_rows1 hC
      refine ⟨_, rfl, b, _, _, _, rfl, rfl, SqL.of hb, rfl, _, rfl, rfl, _, rfl, iteF ?_⟩
      cases o with
      | none =>
        obtain ⟨dx, x0, y0, w0, n0, hA⟩ := hP
        exact ⟨_, rfl, a, C, dx, _, _, rfl, hA, T.cl, T.n_has_paper, pf_has_paper _ _ _ _ _, _, rfl, iteT ⟨(by show 1 ≤ sizeLine; decide), noPaper rfl (by intro x y z; cases z)⟩⟩
      | some st =>
        obtain ⟨hon, dx, hA⟩ := id hP
        refine ⟨_, rfl, a, C, dx, _, _, rfl, hA, T.cl, T.n_has_paper, pf_has_paper _ _ _ _ _, _, rfl, iteF ?_⟩
        refine ⟨_, rfl, rfl, _, rfl, iteF ?_⟩
        refine ⟨_, rfl, rfl, _, rfl, iteF ?_⟩
        refine ⟨_, rfl, rfl, _, rfl, iteT ?_⟩
        exact ⟨_, rfl, a, dx, _, rfl, hA, pf_no_area _ _ _ _ _, _, rfl, b, _, _, _, rfl, rfl, SqL.of hb, rfl, a, b1, st, ws, rfl, hP, SqL.of hb1, hw, k⟩
    | round x y ws hx hy hw =>
      obtain ⟨b1, hb, hb1⟩ := call_rows1 hC
      refine ⟨_, rfl, b, _, _, _, rfl, rfl, SqL.of hb, rfl, _, rfl, rfl, _, rfl, iteF ?_⟩
      cases o with
      | none =>
        obtain ⟨dx, x0, y0, w0, n0, hA⟩ := hP
        exact ⟨_, rfl, a, C, dx, _, _, rfl, hA, T.cl, T.n_has_paper, pf_has_paper _ _ _ _ _, _, rfl, iteT ⟨(by show 1 ≤ sizeLine; decide), noPaper rfl (by intro x y z; cases z)⟩⟩
      | some st =>
        obtain ⟨hon, dx, hA⟩ := id hP
        refine ⟨_, rfl, a, C, dx, _, _, rfl, hA, T.cl, T.n_has_paper, pf_has_paper _ _ _ _ _, _, rfl, iteF ?_⟩
        refine ⟨_, rfl, rfl, _, rfl, iteF ?_⟩
        refine ⟨_, rfl, rfl, _, rfl, iteF ?_⟩
        refine ⟨_, rfl, rfl, _, rfl, iteF ?_⟩
        refine ⟨_, rfl, rfl, _, rfl, iteT ?_⟩
        exact ⟨_, rfl, a, dx, _, rfl, hA, pf_no_round_square _ _ _ _ _, _, rfl, b, _, _, _, rfl, rfl, SqL.of hb, rfl, _, rfl, b, _, _, _, rfl, rfl, SqL.of hb, rfl, _, rfl, b, _, _, _, rfl, rfl, SqL.of hb, rfl, a, b1, x, y, st, ws, rfl, hx, hy, hP, SqL.of hb1, hw, k⟩
    | squares ws hw =>
      obtain ⟨b1, hb, hb1⟩ := call_rows1 hC
      refine ⟨_, rfl, b, _, _, _, rfl, rfl, SqL.of hb, rfl, _, rfl, rfl, _, rfl, iteF ?_⟩
      cases o with
      | none =>
        obtain ⟨dx, x0, y0, w0, n0, hA⟩ := hP
        exact ⟨_, rfl, a, C, dx, _, _, rfl, hA, T.cl, T.n_has_paper, pf_has_paper _ _ _ _ _, _, rfl, iteT ⟨(by show 1 ≤ sizeLine; decide), noPaper rfl (by intro x y z; cases z)⟩⟩
      | some st =>
        obtain ⟨hon, dx, hA⟩ := id hP
        refine ⟨_, rfl, a, C, dx, _, _, rfl, hA, T.cl, T.n_has_paper, pf_has_paper _ _ _ _ _, _, rfl, iteF ?_⟩
        refine ⟨_, rfl, rfl, _, rfl, iteF ?_⟩
        refine ⟨_, rfl, rfl, _, rfl, iteF ?_⟩
        refine ⟨_, rfl, rfl, _, rfl, iteF ?_⟩
        refine ⟨_, rfl, rfl, _, rfl, iteF ?_⟩
        refine ⟨_, rfl, rfl, _, rfl, iteT ?_⟩
        exact ⟨_, rfl, a, dx, _, rfl, hA, pf_no_squares _ _ _ _ _, _, rfl, b, _, _, _, rfl, rfl, SqL.of hb, rfl, a, b1, st, ws, rfl, hP, SqL.of hb1, hw, k⟩
    | corners ws hw =>
      obtain ⟨b1, hb, hb1⟩ := call_rows1 hC
      refine ⟨_, rfl, b, _, _, _, rfl, rfl, SqL.of hb, rfl, _, rfl, rfl, _, rfl, iteF ?_⟩
      cases o with
      | none =>
        obtain ⟨dx, x0, y0, w0, n0, hA⟩ := hP
        exact ⟨_, rfl, a, C, dx, _, _, rfl, hA, T.cl, T.n_has_paper, pf_has_paper _ _ _ _ _, _, rfl, iteT ⟨(by show 1 ≤ sizeLine; decide), noPaper rfl (by intro x y z; cases z)⟩⟩
      | some st =>
        obtain ⟨hon, dx, hA⟩ := id hP
        refine ⟨_, rfl, a, C, dx, _, _, rfl, hA, T.cl, T.n_has_paper, pf_has_paper _ _ _ _ _, _, rfl, iteF ?_⟩
        refine ⟨_, rfl, rfl, _, rfl, iteF ?_⟩
        refine ⟨_, rfl, rfl, _, rfl, iteF ?_⟩
        refine ⟨_, rfl, rfl, _, rfl, iteF ?_⟩
        refine ⟨_, rfl, rfl, _, rfl, iteF ?_⟩
        refine ⟨_, rfl, rfl, _, rfl, iteF ?_⟩
        refine ⟨_, rfl, rfl, _, rfl, iteT ?_⟩
        exact ⟨_, rfl, a, dx, _, rfl, hA, pf_no_corners _ _ _ _ _, _, rfl, b, _, _, _, rfl, rfl, SqL.of hb, rfl, a, b1, st, ws, rfl, hP, SqL.of hb1, hw, k⟩
    | between vs ws hv hw =>
      obtain ⟨b1, b2, hb, hb1, hb2⟩ := call_rows2 hC
      refine ⟨_, rfl, b, _, _, _, rfl, rfl, SqL.of hb, rfl, _, rfl, rfl, _, rfl, iteF ?_⟩
      cases o with
      | none =>
        obtain ⟨dx, x0, y0, w0, n0, hA⟩ := hP
        exact ⟨_, rfl, a, C, dx, _, _, rfl, hA, T.cl, T.n_has_paper, pf_has_paper _ _ _ _ _, _, rfl, iteT ⟨(by show 1 ≤ sizeLine; decide), noPaper rfl (by intro x y z; cases z)⟩⟩
      | some st =>
        obtain ⟨hon, dx, hA⟩ := id hP
        refine ⟨_, rfl, a, C, dx, _, _, rfl, hA, T.cl, T.n_has_paper, pf_has_paper _ _ _ _ _, _, rfl, iteF ?_⟩
        refine ⟨_, rfl, rfl, _, rfl, iteF ?_⟩
        refine ⟨_, rfl, rfl, _, rfl, iteF ?_⟩
        refine ⟨_, rfl, rfl, _, rfl, iteF ?_⟩
        refine ⟨_, rfl, rfl, _, rfl, iteF ?_⟩
        refine ⟨_, rfl, rfl, _, rfl, iteF ?_⟩
        refine ⟨_, rfl, rfl, _, rfl, iteF ?_⟩
        refine ⟨_, rfl, rfl, _, rfl, iteT ?_⟩
        exact ⟨_, rfl, a, dx, _, rfl, hA, pf_no_between _ _ _ _ _, _, rfl, b, _, _, _, rfl, rfl, SqL.of hb, rfl, _, rfl, b, _, _, _, rfl, rfl, SqL.of hb, rfl, a, b1, b2, st, vs, ws, rfl, hP, SqL.of hb1, SqL.of hb2, hv, hw, k⟩
    | straight ws hw =>
      obtain ⟨b1, hb, hb1⟩ := call_rows1 hC
      refine ⟨_, rfl, b, _, _, _, rfl, rfl, SqL.of hb, rfl, _, rfl, rfl, _, rfl, iteF ?_⟩
      cases o with
      | none =>
        obtain ⟨dx, x0, y0, w0, n0, hA⟩ := hP
        exact ⟨_, rfl, a, C, dx, _, _, rfl, hA, T.cl, T.n_has_paper, pf_has_paper _ _ _ _ _, _, rfl, iteT ⟨(by show 1 ≤ sizeLine; decide), noPaper rfl (by intro x y z; cases z)⟩⟩
      | some st =>
        obtain ⟨hon, dx, hA⟩ := id hP
        refine ⟨_, rfl, a, C, dx, _, _, rfl, hA, T.cl, T.n_has_paper, pf_has_paper _ _ _ _ _, _, rfl, iteF ?_⟩
        refine ⟨_, rfl, rfl, _, rfl, iteF ?_⟩
        refine ⟨_, rfl, rfl, _, rfl, iteF ?_⟩
        refine ⟨_, rfl, rfl, _, rfl, iteF ?_⟩
        refine ⟨_, rfl, rfl, _, rfl, iteF ?_⟩
        refine ⟨_, rfl, rfl, _, rfl, iteF ?_⟩
        refine ⟨_, rfl, rfl, _, rfl, iteF ?_⟩
        refine ⟨_, rfl, rfl, _, rfl, iteF ?_⟩
        refine ⟨_, rfl, rfl, _, rfl, iteT ?_⟩
        exact ⟨_, rfl, a, dx, _, rfl, hA, pf_no_straight _ _ _ _ _, _, rfl, b, _, _, _, rfl, rfl, SqL.of hb, rfl, a, b1, st, ws, rfl, hP, SqL.of hb1, hw, k⟩
    | shortest n hn hn9 =>
      have hb := call_rows0 hC
      refine ⟨_, rfl, b, _, _, _, rfl, rfl, SqL.of hb, rfl, _, rfl, rfl, _, rfl, iteF ?_⟩
      cases o with
      | none =>
        obtain ⟨dx, x0, y0, w0, n0, hA⟩ := hP
        exact ⟨_, rfl, a, C, dx, _, _, rfl, hA, T.cl, T.n_has_paper, pf_has_paper _ _ _ _ _, _, rfl, iteT ⟨(by show 1 ≤ sizeLine; decide), noPaper rfl (by intro x y z; cases z)⟩⟩
      | some st =>
        obtain ⟨hon, dx, hA⟩ := id hP
        refine ⟨_, rfl, a, C, dx, _, _, rfl, hA, T.cl, T.n_has_paper, pf_has_paper _ _ _ _ _, _, rfl, iteF ?_⟩
        refine ⟨_, rfl, rfl, _, rfl, iteF ?_⟩
        refine ⟨_, rfl, rfl, _, rfl, iteF ?_⟩
        refine ⟨_, rfl, rfl, _, rfl, iteF ?_⟩
        refine ⟨_, rfl, rfl, _, rfl, iteF ?_⟩
        refine ⟨_, rfl, rfl, _, rfl, iteF ?_⟩
        refine ⟨_, rfl, rfl, _, rfl, iteF ?_⟩
        refine ⟨_, rfl, rfl, _, rfl, iteF ?_⟩
        refine ⟨_, rfl, rfl, _, rfl, iteF ?_⟩
        refine ⟨_, rfl, rfl, _, rfl, iteT ?_⟩
        exact ⟨_, rfl, a, dx, _, rfl, hA, pf_no_shortest _ _ _ _ _, _, rfl, b, _, _, _, rfl, rfl, SqL.of hb, rfl, a, n, st, rfl, hn, hP, k⟩
    | home =>
      have hb := call_rows0 hC
      refine ⟨_, rfl, b, _, _, _, rfl, rfl, SqL.of hb, rfl, _, rfl, rfl, _, rfl, iteF ?_⟩
      cases o with
      | none =>
        obtain ⟨dx, x0, y0, w0, n0, hA⟩ := hP
        exact ⟨_, rfl, a, C, dx, _, _, rfl, hA, T.cl, T.n_has_paper, pf_has_paper _ _ _ _ _, _, rfl, iteT ⟨(by show 1 ≤ sizeLine; decide), noPaper rfl (by intro x y z; cases z)⟩⟩
      | some st =>
        obtain ⟨hon, dx, hA⟩ := id hP
        refine ⟨_, rfl, a, C, dx, _, _, rfl, hA, T.cl, T.n_has_paper, pf_has_paper _ _ _ _ _, _, rfl, iteF ?_⟩
        refine ⟨_, rfl, rfl, _, rfl, iteF ?_⟩
        refine ⟨_, rfl, rfl, _, rfl, iteF ?_⟩
        refine ⟨_, rfl, rfl, _, rfl, iteF ?_⟩
        refine ⟨_, rfl, rfl, _, rfl, iteF ?_⟩
        refine ⟨_, rfl, rfl, _, rfl, iteF ?_⟩
        refine ⟨_, rfl, rfl, _, rfl, iteF ?_⟩
        refine ⟨_, rfl, rfl, _, rfl, iteF ?_⟩
        refine ⟨_, rfl, rfl, _, rfl, iteF ?_⟩
        refine ⟨_, rfl, rfl, _, rfl, iteF ?_⟩
        refine ⟨_, rfl, rfl, _, rfl, iteT ?_⟩
        exact ⟨_, rfl, a, dx, _, rfl, hA, pf_no_home _ _ _ _ _, a, st, rfl, hP, k⟩
    | look =>
      have hb := call_rows0 hC
      refine ⟨_, rfl, b, _, _, _, rfl, rfl, SqL.of hb, rfl, _, rfl, rfl, _, rfl, iteF ?_⟩
      cases o with
      | none =>
        obtain ⟨dx, x0, y0, w0, n0, hA⟩ := hP
        exact ⟨_, rfl, a, C, dx, _, _, rfl, hA, T.cl, T.n_has_paper, pf_has_paper _ _ _ _ _, _, rfl, iteT ⟨(by show 1 ≤ sizeLine; decide), noPaper rfl (by intro x y z; cases z)⟩⟩
      | some st =>
        obtain ⟨hon, dx, hA⟩ := id hP
        refine ⟨_, rfl, a, C, dx, _, _, rfl, hA, T.cl, T.n_has_paper, pf_has_paper _ _ _ _ _, _, rfl, iteF ?_⟩
        refine ⟨_, rfl, rfl, _, rfl, iteF ?_⟩
        refine ⟨_, rfl, rfl, _, rfl, iteF ?_⟩
        refine ⟨_, rfl, rfl, _, rfl, iteF ?_⟩
        refine ⟨_, rfl, rfl, _, rfl, iteF ?_⟩
        refine ⟨_, rfl, rfl, _, rfl, iteF ?_⟩
        refine ⟨_, rfl, rfl, _, rfl, iteF ?_⟩
        refine ⟨_, rfl, rfl, _, rfl, iteF ?_⟩
        refine ⟨_, rfl, rfl, _, rfl, iteF ?_⟩
        refine ⟨_, rfl, rfl, _, rfl, iteF ?_⟩
        refine ⟨_, rfl, rfl, _, rfl, iteF ?_⟩
        exact ⟨_, rfl, a, dx, _, rfl, hA, pf_no_look _ _ _ _ _, a, st, rfl, hP, k⟩
/-! ### answers -/
def spAnswers (K : PySem.W.Frag) : Sp := fun vs H Q _ => ∃ (a : Addr) (l : List Int), vs = [.ref a] ∧ SqL K H a (l.map V.int) ∧ l.length ≤ 10000 ∧ PyMu55.answers_asked l = true ∧
  ∀ (H' : Hp) (p : Addr), H' p = some (.lst ((PyMu55.answers l).map V.int)) → Q (.ref p) H'
theorem sc_answers : FnScope ["calls", "pointer", "told", "call", "answered"] ["calls"] (defScope s_answers) := ⟨rfl, rfl, rfl, by decide +kernel, rfl, by decide +kernel, by decide +kernel⟩
theorem ok_answers {f : Addr} {fd : FuncData} (F : Fun K "answers" "answers" s_answers f fd) (T : Txt K mg C) (M_Pointer : Mak P w K mg base C 1 "Pointer" ["self"] (spInit C)) (G_split_calls : Fn P w K mg base 1 "split_calls" ["calls"] (spSplit K))
    (G_answer : Me P w K mg base C 5 "answer" ["self", "call"] (spAnswer K C)) : FnOk P w K mg base CX0 6 f fd ["calls"] (spAnswers K) := by
  refine F.ok sc_answers (fun vs H Q E h => ?_) (fun cdv A outer s H vs Q E hr h => ?_)
  · obtain ⟨a, l, rfl, _⟩ := h
    rfl
  · obtain ⟨a, l, rfl, hS, hlen, hask, k⟩ := h
    obtain ⟨raw, hraw, hform, hans, hshort⟩ := asked_raw hask
    refine ⟨_, (pss_cons (ps_set (i := 1) sc_answers.nd rfl (Or.inl rfl) (pe_mk0 M_Pointer (hr.mono (by decide)) rfl))
      (pss_cons (ps_set (i := 2) sc_answers.nd rfl (Or.inl rfl) (pe_lst pa_nil))
      (pss_cons (ps_for PassesOwn.never rfl (pi_list (pe_fn G_split_calls (hr.mono (by decide)) rfl (pa_cons (pv 0) pa_nil))) (pg_name (i := 3) sc_answers.nd rfl (Or.inl rfl)) 
        (pss_cons (ps_set (i := 4) sc_answers.nd rfl (Or.inl rfl) (pe_me (pv 1) T.cl G_answer (hr.mono (by decide)) (pa_cons (pv 3) pa_nil)))
        (pss_cons (ps_expr (pe_bm PySem.F.plainAttrs_list PySem.F.slot_list_append PySem.F.type_list_append mt_append (pv 2) (pa_cons (pe_callB call_len_seq (by rfl) T.b_len boot_len (pa_cons (pv 4) pa_nil)) pa_nil)))
        (pss_one (ps_expr (pe_bm PySem.F.plainAttrs_list PySem.F.slot_list_extend PySem.F.type_list_extend mt_extend (pv 2) (pa_cons (pv 4) pa_nil)))))))
      (pss_one (ps_ret (pv 2)))))), ?_⟩
    -- pointer = Pointer()
    intro x dx nx nd ne
    refine ⟨x, dx, rfl, upd_same, fun H1 hP1 k1 => ⟨rfl, ?_⟩⟩
    have s1 : Same H H1 := Same.made nx nd k1
    obtain ⟨dx1, x1, y1, w1, n1, hA1⟩ := id hP1
    -- told = []
    refine ⟨Nat.zero_le _, fun t ht => ?_⟩
    have s2 := same_new (o := .lst []) ht
    -- split_calls(calls)
    refine ⟨_, rfl, a, l, raw, rfl, s2.seq (s1.seq hS), hlen, hraw, fun H3 q as s3 hq hq3 hcalls => ?_⟩
    have ht2 : upd H1 t (.lst []) t = some (.lst []) := upd_same
    have nqt : q ≠ t := (ne_of_none ht2 hq).symm
    have hA2 := s2 _ _ hA1
    have nqx : q ≠ x := (ne_of_none hA2 hq).symm
    have ntx : t ≠ x := (ne_of_none hA1 ht).symm
    refine ⟨q, rfl, ⟨_, SqL.of hq3⟩, for_list (K := K) (a := q) (xs := as.map V.ref)
      (fun i σ H' => ∃ (v3 v4 : Option V) (o : Mu55.Abs) (ts : List Int), σ = [some (.ref a), some (.ref x), some (.ref t), v3, v4] ∧ PtrAt C H' x o ∧ H' t = some (.lst (ts.map V.int)) ∧ (∀ b u, H3 b = some u → b ≠ x → b ≠ t → H' b = some u) ∧
        ts ++ PyFlat.told (PyFlat.played Mu55Neutral.step o (raw.drop i)) = PyMu55.answers l)
      ⟨none, none, none, [], rfl, (hP1.same s2).same s3, s3 _ _ ht2, fun b u e _ _ => e, hans.symm⟩ (fun i σ H' _ ⟨_, _, _, _, _, _, _, s5, _⟩ => SqL.of (s5 _ _ hq3 nqx nqt)) ?_ ?_⟩
    · rintro i yv σ H' hi ⟨v3, v4, o, ts, rfl, hP', ht', s5, hts⟩
      obtain ⟨c, hc, rfl⟩ := map_at hi
      obtain ⟨rc, hrc, hCA⟩ := paired_get hcalls hc
      have hCA' : CallAt (fun b => b ≠ q ∧ upd H1 t (.lst []) b = Option.none) H' c rc := hCA.imp (fun _ z => z) fun b xs z hb => s5 _ _ hb (ne_of_none hA2 z.2).symm (ne_of_none ht2 z.2).symm
      have hmem := List.mem_of_getElem? hrc
      rw [drop_at hrc, played_cons, told_cons, ← List.append_assoc] at hts
      have hlen2 := congrArg List.length hts
      rw [List.length_append, List.length_append, List.length_cons] at hlen2
      obtain ⟨dx', b', x', y', w', n', hA'⟩ := hP'.any
      refine ⟨_, rfl, x, dx', _, rfl, hA', pf_no_answer _ _ _ _ _, _, rfl, x, c, o, _, rc, rfl, hP', hCA', hform _ hmem, fun H6 p hP6 k6 hp hp6 => ?_⟩
      have ht6 := k6 _ _ ht' ntx
      have npt : p ≠ t := (ne_of_none ht' hp).symm
      have npx : p ≠ x := (ne_of_none hA' hp).symm
      have hsl : sizeLine = 16777216 := sizeLine_eq
      refine ⟨_, rfl, .inl ⟨rfl, _, SqL.of ht6⟩, _, rfl, p, _, rfl, .inl (SqL.of hp6), t, _, _, rfl, rfl, ht6, (by rw [List.length_map]; omega), ?_⟩
      have hp7 : upd H6 t (.lst (ts.map V.int ++ [.int (((Mu55Neutral.step o rc).2.map V.int).length : Nat)])) p = some (.lst ((Mu55Neutral.step o rc).2.map V.int)) := by
        rw [upd_ne npt]
        exact hp6
      refine ⟨_, rfl, .inl ⟨rfl, _, SqL.of upd_same⟩, _, rfl, t, p, _, _, rfl, rfl, upd_same, hp7, (by rw [List.length_append, List.length_map, List.length_map, List.length_singleton]; omega), ?_⟩
      refine ⟨_, _, (Mu55Neutral.step o rc).1, ts ++ ((((Mu55Neutral.step o rc).2.length : Nat) : Int) :: (Mu55Neutral.step o rc).2), rfl, ?_, ?_, ?_, hts⟩
      · have e7 : ∀ o', H6 x = some o' → upd (upd H6 t (.lst (ts.map V.int ++ [.int (((Mu55Neutral.step o rc).2.map V.int).length : Nat)]))) t (.lst ((ts.map V.int ++ [.int (((Mu55Neutral.step o rc).2.map V.int).length : Nat)]) ++ (Mu55Neutral.step o rc).2.map V.int)) x = some o' := fun o' e => by
          rw [upd_ne ntx.symm, upd_ne ntx.symm]
          exact e
        cases hz : (Mu55Neutral.step o rc).1 with
        | none =>
          rw [hz] at hP6
          obtain ⟨d, a1, a2, a3, a4, e⟩ := hP6
          exact ⟨d, a1, a2, a3, a4, e7 _ e⟩
        | some st =>
          rw [hz] at hP6
          obtain ⟨h1, d, e⟩ := hP6
          exact ⟨h1, d, e7 _ e⟩
      · rw [upd_same, List.map_append, List.map_cons, List.length_map, List.append_assoc]
        rfl
      · intro b u e nb1 nb2
        rw [upd_ne nb2, upd_ne nb2]
        exact k6 _ _ (s5 _ _ e nb1 nb2) nb1
    · rintro σ H' ⟨v3, v4, o, ts, rfl, hP', ht', s5, hts⟩
      rw [List.length_map, Paired.length hcalls, List.drop_length] at hts
      have e : ts = PyMu55.answers l := by
        rw [← hts]
        exact (List.append_nil ts).symm
      rw [e] at ht'
      exact ⟨_, rfl, k _ t ht'⟩
end
end WA
end
section
set_option Elab.async false
set_option linter.all false
set_option maxRecDepth 100000
set_option maxHeartbeats 2000000
namespace WA
open PySem PySem.Spec PyProof.Rows L2
theorem all_mk {P : Program} {w : World} {K : PySem.W.Frag} {h : Heap} {mg : Str → Option Value} {fa C : Addr} (X : K.In h) (G : h.Ns mainGlobals mg) (hfa : mg "answers" = some (.ref fa))
    {f_end_of : Addr} {od_end_of an_end_of : Option Addr} {sl_end_of : Array (Option Value)} {oc_end_of kV_end_of dc_end_of pm_end_of cd_end_of ct_end_of : Value}
    {f_is_on_paper : Addr} {od_is_on_paper an_is_on_paper : Option Addr} {sl_is_on_paper : Array (Option Value)} {oc_is_on_paper kV_is_on_paper dc_is_on_paper pm_is_on_paper cd_is_on_paper ct_is_on_paper : Value}
    {f_is_way : Addr} {od_is_way an_is_way : Option Addr} {sl_is_way : Array (Option Value)} {oc_is_way kV_is_way dc_is_way pm_is_way cd_is_way ct_is_way : Value}
    {f_is_loop : Addr} {od_is_loop an_is_loop : Option Addr} {sl_is_loop : Array (Option Value)} {oc_is_loop kV_is_loop dc_is_loop pm_is_loop cd_is_loop ct_is_loop : Value}
    {f_upright_steps : Addr} {od_upright_steps an_upright_steps : Option Addr} {sl_upright_steps : Array (Option Value)} {oc_upright_steps kV_upright_steps dc_upright_steps pm_upright_steps cd_upright_steps ct_upright_steps : Value}
    {f_turning : Addr} {od_turning an_turning : Option Addr} {sl_turning : Array (Option Value)} {oc_turning kV_turning dc_turning pm_turning cd_turning ct_turning : Value}
    {f_times_round : Addr} {od_times_round an_times_round : Option Addr} {sl_times_round : Array (Option Value)} {oc_times_round kV_times_round dc_times_round pm_times_round cd_times_round ct_times_round : Value}
    {f_corners_come_to : Addr} {od_corners_come_to an_corners_come_to : Option Addr} {sl_corners_come_to : Array (Option Value)} {oc_corners_come_to kV_corners_come_to dc_corners_come_to pm_corners_come_to cd_corners_come_to ct_corners_come_to : Value}
    {f_straightened : Addr} {od_straightened an_straightened : Option Addr} {sl_straightened : Array (Option Value)} {oc_straightened kV_straightened dc_straightened pm_straightened cd_straightened ct_straightened : Value}
    {f_row_length : Addr} {od_row_length an_row_length : Option Addr} {sl_row_length : Array (Option Value)} {oc_row_length kV_row_length dc_row_length pm_row_length cd_row_length ct_row_length : Value}
    {f_loop_round : Addr} {od_loop_round an_loop_round : Option Addr} {sl_loop_round : Array (Option Value)} {oc_loop_round kV_loop_round dc_loop_round pm_loop_round cd_loop_round ct_loop_round : Value}
    {f_init : Addr} {od_init an_init : Option Addr} {sl_init : Array (Option Value)} {oc_init kV_init dc_init pm_init cd_init ct_init : Value}
    {f_begin : Addr} {od_begin an_begin : Option Addr} {sl_begin : Array (Option Value)} {oc_begin kV_begin dc_begin pm_begin cd_begin ct_begin : Value}
    {f_walk : Addr} {od_walk an_walk : Option Addr} {sl_walk : Array (Option Value)} {oc_walk kV_walk dc_walk pm_walk cd_walk ct_walk : Value}
    {f_go : Addr} {od_go an_go : Option Addr} {sl_go : Array (Option Value)} {oc_go kV_go dc_go pm_go cd_go ct_go : Value}
    {f_zero : Addr} {od_zero an_zero : Option Addr} {sl_zero : Array (Option Value)} {oc_zero kV_zero dc_zero pm_zero cd_zero ct_zero : Value}
    {f_area : Addr} {od_area an_area : Option Addr} {sl_area : Array (Option Value)} {oc_area kV_area dc_area pm_area cd_area ct_area : Value}
    {f_round_square : Addr} {od_round_square an_round_square : Option Addr} {sl_round_square : Array (Option Value)} {oc_round_square kV_round_square dc_round_square pm_round_square cd_round_square ct_round_square : Value}
    {f_squares : Addr} {od_squares an_squares : Option Addr} {sl_squares : Array (Option Value)} {oc_squares kV_squares dc_squares pm_squares cd_squares ct_squares : Value}
    {f_corners : Addr} {od_corners an_corners : Option Addr} {sl_corners : Array (Option Value)} {oc_corners kV_corners dc_corners pm_corners cd_corners ct_corners : Value}
    {f_between : Addr} {od_between an_between : Option Addr} {sl_between : Array (Option Value)} {oc_between kV_between dc_between pm_between cd_between ct_between : Value}
    {f_straight : Addr} {od_straight an_straight : Option Addr} {sl_straight : Array (Option Value)} {oc_straight kV_straight dc_straight pm_straight cd_straight ct_straight : Value}
    {f_shortest : Addr} {od_shortest an_shortest : Option Addr} {sl_shortest : Array (Option Value)} {oc_shortest kV_shortest dc_shortest pm_shortest cd_shortest ct_shortest : Value}
    {f_home : Addr} {od_home an_home : Option Addr} {sl_home : Array (Option Value)} {oc_home kV_home dc_home pm_home cd_home ct_home : Value}
    {f_look : Addr} {od_look an_look : Option Addr} {sl_look : Array (Option Value)} {oc_look kV_look dc_look pm_look cd_look ct_look : Value}
    {f_answer : Addr} {od_answer an_answer : Option Addr} {sl_answer : Array (Option Value)} {oc_answer kV_answer dc_answer pm_answer cd_answer ct_answer : Value}
    {f_split_calls : Addr} {od_split_calls an_split_calls : Option Addr} {sl_split_calls : Array (Option Value)} {oc_split_calls kV_split_calls dc_split_calls pm_split_calls cd_split_calls ct_split_calls : Value}
    {f_answers : Addr} {od_answers an_answers : Option Addr} {sl_answers : Array (Option Value)} {oc_answers kV_answers dc_answers pm_answers cd_answers ct_answers : Value}
    {t_EDGE : Tok}
    {t_LONGEST_WAY : Tok}
    {t_STEP_RIGHT : Tok}
    {t_STEP_LEFT : Tok}
    {t_STEP_UP : Tok}
    {t_STEP_DOWN : Tok}
    {t_BEGIN : Tok}
    {t_GO : Tok}
    {t_ZERO : Tok}
    {t_AREA : Tok}
    {t_ROUND : Tok}
    {t_SQUARES : Tok}
    {t_CORNERS : Tok}
    {t_BETWEEN : Tok}
    {t_STRAIGHT : Tok}
    {t_SHORTEST : Tok}
    {t_HOME : Tok}
    {t_NOT_LET : Tok}
    {t_NO_SUCH_SQUARE : Tok}
    {t_NO_LOOP : Tok}
    {t_NO_PAPER : Tok}
    {at_BACK_OF : Addr} {ot_BACK_OF : Option Addr} {nt_BACK_OF : Nat} {st_BACK_OF : Array (Option Value)} {t_BACK_OF_0 : Tok} {t_BACK_OF_1 : Tok} {t_BACK_OF_2 : Tok} {t_BACK_OF_3 : Tok}
    {at_NUMBERS_OF : Addr} {ot_NUMBERS_OF : Option Addr} {nt_NUMBERS_OF : Nat} {st_NUMBERS_OF : Array (Option Value)} {t_NUMBERS_OF_0 : Tok} {t_NUMBERS_OF_1 : Tok} {t_NUMBERS_OF_2 : Tok} {t_NUMBERS_OF_3 : Tok} {t_NUMBERS_OF_4 : Tok} {t_NUMBERS_OF_5 : Tok} {t_NUMBERS_OF_6 : Tok} {t_NUMBERS_OF_7 : Tok} {t_NUMBERS_OF_8 : Tok} {t_NUMBERS_OF_9 : Tok} {t_NUMBERS_OF_10 : Tok} {t_NUMBERS_OF_11 : Tok}
    {at_WAYS_OF : Addr} {ot_WAYS_OF : Option Addr} {nt_WAYS_OF : Nat} {st_WAYS_OF : Array (Option Value)} {t_WAYS_OF_0 : Tok} {t_WAYS_OF_1 : Tok} {t_WAYS_OF_2 : Tok} {t_WAYS_OF_3 : Tok} {t_WAYS_OF_4 : Tok} {t_WAYS_OF_5 : Tok} {t_WAYS_OF_6 : Tok} {t_WAYS_OF_7 : Tok} {t_WAYS_OF_8 : Tok} {t_WAYS_OF_9 : Tok} {t_WAYS_OF_10 : Tok} {t_WAYS_OF_11 : Tok}
    (aC : PySem.W.nsIn K mainGlobals "Pointer" = some (some (.ref C)))
    (a_end_of : PySem.W.nsIn K mainGlobals "end_of" = some (some (.ref f_end_of)))
    (l_end_of : K.lookup f_end_of = some ⟨oc_end_of, od_end_of, .func (PySem.W.fnOf "end_of" "end_of" (defArgs s_end_of) (defBody s_end_of) (defScope s_end_of) .none kV_end_of dc_end_of pm_end_of an_end_of cd_end_of ct_end_of), sl_end_of⟩) (c_end_of : PySem.W.codeIn K cd_end_of "end_of" = true) (k_end_of : PySem.W.keepIn K (.ref f_end_of) = true)
    (a_is_on_paper : PySem.W.nsIn K mainGlobals "is_on_paper" = some (some (.ref f_is_on_paper)))
    (l_is_on_paper : K.lookup f_is_on_paper = some ⟨oc_is_on_paper, od_is_on_paper, .func (PySem.W.fnOf "is_on_paper" "is_on_paper" (defArgs s_is_on_paper) (defBody s_is_on_paper) (defScope s_is_on_paper) .none kV_is_on_paper dc_is_on_paper pm_is_on_paper an_is_on_paper cd_is_on_paper ct_is_on_paper), sl_is_on_paper⟩) (c_is_on_paper : PySem.W.codeIn K cd_is_on_paper "is_on_paper" = true) (k_is_on_paper : PySem.W.keepIn K (.ref f_is_on_paper) = true)
    (a_is_way : PySem.W.nsIn K mainGlobals "is_way" = some (some (.ref f_is_way)))
    (l_is_way : K.lookup f_is_way = some ⟨oc_is_way, od_is_way, .func (PySem.W.fnOf "is_way" "is_way" (defArgs s_is_way) (defBody s_is_way) (defScope s_is_way) .none kV_is_way dc_is_way pm_is_way an_is_way cd_is_way ct_is_way), sl_is_way⟩) (c_is_way : PySem.W.codeIn K cd_is_way "is_way" = true) (k_is_way : PySem.W.keepIn K (.ref f_is_way) = true)
    (a_is_loop : PySem.W.nsIn K mainGlobals "is_loop" = some (some (.ref f_is_loop)))
    (l_is_loop : K.lookup f_is_loop = some ⟨oc_is_loop, od_is_loop, .func (PySem.W.fnOf "is_loop" "is_loop" (defArgs s_is_loop) (defBody s_is_loop) (defScope s_is_loop) .none kV_is_loop dc_is_loop pm_is_loop an_is_loop cd_is_loop ct_is_loop), sl_is_loop⟩) (c_is_loop : PySem.W.codeIn K cd_is_loop "is_loop" = true) (k_is_loop : PySem.W.keepIn K (.ref f_is_loop) = true)
    (a_upright_steps : PySem.W.nsIn K mainGlobals "upright_steps" = some (some (.ref f_upright_steps)))
    (l_upright_steps : K.lookup f_upright_steps = some ⟨oc_upright_steps, od_upright_steps, .func (PySem.W.fnOf "upright_steps" "upright_steps" (defArgs s_upright_steps) (defBody s_upright_steps) (defScope s_upright_steps) .none kV_upright_steps dc_upright_steps pm_upright_steps an_upright_steps cd_upright_steps ct_upright_steps), sl_upright_steps⟩) (c_upright_steps : PySem.W.codeIn K cd_upright_steps "upright_steps" = true) (k_upright_steps : PySem.W.keepIn K (.ref f_upright_steps) = true)
    (a_turning : PySem.W.nsIn K mainGlobals "turning" = some (some (.ref f_turning)))
    (l_turning : K.lookup f_turning = some ⟨oc_turning, od_turning, .func (PySem.W.fnOf "turning" "turning" (defArgs s_turning) (defBody s_turning) (defScope s_turning) .none kV_turning dc_turning pm_turning an_turning cd_turning ct_turning), sl_turning⟩) (c_turning : PySem.W.codeIn K cd_turning "turning" = true) (k_turning : PySem.W.keepIn K (.ref f_turning) = true)
    (a_times_round : PySem.W.nsIn K mainGlobals "times_round" = some (some (.ref f_times_round)))
    (l_times_round : K.lookup f_times_round = some ⟨oc_times_round, od_times_round, .func (PySem.W.fnOf "times_round" "times_round" (defArgs s_times_round) (defBody s_times_round) (defScope s_times_round) .none kV_times_round dc_times_round pm_times_round an_times_round cd_times_round ct_times_round), sl_times_round⟩) (c_times_round : PySem.W.codeIn K cd_times_round "times_round" = true) (k_times_round : PySem.W.keepIn K (.ref f_times_round) = true)
    (a_corners_come_to : PySem.W.nsIn K mainGlobals "corners_come_to" = some (some (.ref f_corners_come_to)))
    (l_corners_come_to : K.lookup f_corners_come_to = some ⟨oc_corners_come_to, od_corners_come_to, .func (PySem.W.fnOf "corners_come_to" "corners_come_to" (defArgs s_corners_come_to) (defBody s_corners_come_to) (defScope s_corners_come_to) .none kV_corners_come_to dc_corners_come_to pm_corners_come_to an_corners_come_to cd_corners_come_to ct_corners_come_to), sl_corners_come_to⟩) (c_corners_come_to : PySem.W.codeIn K cd_corners_come_to "corners_come_to" = true) (k_corners_come_to : PySem.W.keepIn K (.ref f_corners_come_to) = true)
    (a_straightened : PySem.W.nsIn K mainGlobals "straightened" = some (some (.ref f_straightened)))
    (l_straightened : K.lookup f_straightened = some ⟨oc_straightened, od_straightened, .func (PySem.W.fnOf "straightened" "straightened" (defArgs s_straightened) (defBody s_straightened) (defScope s_straightened) .none kV_straightened dc_straightened pm_straightened an_straightened cd_straightened ct_straightened), sl_straightened⟩) (c_straightened : PySem.W.codeIn K cd_straightened "straightened" = true) (k_straightened : PySem.W.keepIn K (.ref f_straightened) = true)
    (a_row_length : PySem.W.nsIn K mainGlobals "row_length" = some (some (.ref f_row_length)))
    (l_row_length : K.lookup f_row_length = some ⟨oc_row_length, od_row_length, .func (PySem.W.fnOf "row_length" "row_length" (defArgs s_row_length) (defBody s_row_length) (defScope s_row_length) .none kV_row_length dc_row_length pm_row_length an_row_length cd_row_length ct_row_length), sl_row_length⟩) (c_row_length : PySem.W.codeIn K cd_row_length "row_length" = true) (k_row_length : PySem.W.keepIn K (.ref f_row_length) = true)
    (a_loop_round : PySem.W.nsIn K mainGlobals "loop_round" = some (some (.ref f_loop_round)))
    (l_loop_round : K.lookup f_loop_round = some ⟨oc_loop_round, od_loop_round, .func (PySem.W.fnOf "loop_round" "loop_round" (defArgs s_loop_round) (defBody s_loop_round) (defScope s_loop_round) .none kV_loop_round dc_loop_round pm_loop_round an_loop_round cd_loop_round ct_loop_round), sl_loop_round⟩) (c_loop_round : PySem.W.codeIn K cd_loop_round "loop_round" = true) (k_loop_round : PySem.W.keepIn K (.ref f_loop_round) = true)
    (a_init : PySem.W.findIn K (.ref C) "__init__" = some (some (.ref f_init))) (i_init : PySem.W.isFn K (.ref f_init) = true)
    (l_init : K.lookup f_init = some ⟨oc_init, od_init, .func (PySem.W.fnOf "__init__" "Pointer.__init__" (defArgs s_Pointer___init__) (defBody s_Pointer___init__) (defScope s_Pointer___init__) .none kV_init dc_init pm_init an_init cd_init ct_init), sl_init⟩) (c_init : PySem.W.codeIn K cd_init "Pointer.__init__" = true) (k_init : PySem.W.keepIn K (.ref f_init) = true)
    (a_begin : PySem.W.findIn K (.ref C) "begin" = some (some (.ref f_begin))) (i_begin : PySem.W.isFn K (.ref f_begin) = true)
    (l_begin : K.lookup f_begin = some ⟨oc_begin, od_begin, .func (PySem.W.fnOf "begin" "Pointer.begin" (defArgs s_Pointer_begin) (defBody s_Pointer_begin) (defScope s_Pointer_begin) .none kV_begin dc_begin pm_begin an_begin cd_begin ct_begin), sl_begin⟩) (c_begin : PySem.W.codeIn K cd_begin "Pointer.begin" = true) (k_begin : PySem.W.keepIn K (.ref f_begin) = true)
    (a_walk : PySem.W.findIn K (.ref C) "walk" = some (some (.ref f_walk))) (i_walk : PySem.W.isFn K (.ref f_walk) = true)
    (l_walk : K.lookup f_walk = some ⟨oc_walk, od_walk, .func (PySem.W.fnOf "walk" "Pointer.walk" (defArgs s_Pointer_walk) (defBody s_Pointer_walk) (defScope s_Pointer_walk) .none kV_walk dc_walk pm_walk an_walk cd_walk ct_walk), sl_walk⟩) (c_walk : PySem.W.codeIn K cd_walk "Pointer.walk" = true) (k_walk : PySem.W.keepIn K (.ref f_walk) = true)
    (a_go : PySem.W.findIn K (.ref C) "go" = some (some (.ref f_go))) (i_go : PySem.W.isFn K (.ref f_go) = true)
    (l_go : K.lookup f_go = some ⟨oc_go, od_go, .func (PySem.W.fnOf "go" "Pointer.go" (defArgs s_Pointer_go) (defBody s_Pointer_go) (defScope s_Pointer_go) .none kV_go dc_go pm_go an_go cd_go ct_go), sl_go⟩) (c_go : PySem.W.codeIn K cd_go "Pointer.go" = true) (k_go : PySem.W.keepIn K (.ref f_go) = true)
    (a_zero : PySem.W.findIn K (.ref C) "zero" = some (some (.ref f_zero))) (i_zero : PySem.W.isFn K (.ref f_zero) = true)
    (l_zero : K.lookup f_zero = some ⟨oc_zero, od_zero, .func (PySem.W.fnOf "zero" "Pointer.zero" (defArgs s_Pointer_zero) (defBody s_Pointer_zero) (defScope s_Pointer_zero) .none kV_zero dc_zero pm_zero an_zero cd_zero ct_zero), sl_zero⟩) (c_zero : PySem.W.codeIn K cd_zero "Pointer.zero" = true) (k_zero : PySem.W.keepIn K (.ref f_zero) = true)
    (a_area : PySem.W.findIn K (.ref C) "area" = some (some (.ref f_area))) (i_area : PySem.W.isFn K (.ref f_area) = true)
    (l_area : K.lookup f_area = some ⟨oc_area, od_area, .func (PySem.W.fnOf "area" "Pointer.area" (defArgs s_Pointer_area) (defBody s_Pointer_area) (defScope s_Pointer_area) .none kV_area dc_area pm_area an_area cd_area ct_area), sl_area⟩) (c_area : PySem.W.codeIn K cd_area "Pointer.area" = true) (k_area : PySem.W.keepIn K (.ref f_area) = true)
    (a_round_square : PySem.W.findIn K (.ref C) "round_square" = some (some (.ref f_round_square))) (i_round_square : PySem.W.isFn K (.ref f_round_square) = true)
    (l_round_square : K.lookup f_round_square = some ⟨oc_round_square, od_round_square, .func (PySem.W.fnOf "round_square" "Pointer.round_square" (defArgs s_Pointer_round_square) (defBody s_Pointer_round_square) (defScope s_Pointer_round_square) .none kV_round_square dc_round_square pm_round_square an_round_square cd_round_square ct_round_square), sl_round_square⟩) (c_round_square : PySem.W.codeIn K cd_round_square "Pointer.round_square" = true) (k_round_square : PySem.W.keepIn K (.ref f_round_square) = true)
    (a_squares : PySem.W.findIn K (.ref C) "squares" = some (some (.ref f_squares))) (i_squares : PySem.W.isFn K (.ref f_squares) = true)
    (l_squares : K.lookup f_squares = some ⟨oc_squares, od_squares, .func (PySem.W.fnOf "squares" "Pointer.squares" (defArgs s_Pointer_squares) (defBody s_Pointer_squares) (defScope s_Pointer_squares) .none kV_squares dc_squares pm_squares an_squares cd_squares ct_squares), sl_squares⟩) (c_squares : PySem.W.codeIn K cd_squares "Pointer.squares" = true) (k_squares : PySem.W.keepIn K (.ref f_squares) = true)
    (a_corners : PySem.W.findIn K (.ref C) "corners" = some (some (.ref f_corners))) (i_corners : PySem.W.isFn K (.ref f_corners) = true)
    (l_corners : K.lookup f_corners = some ⟨oc_corners, od_corners, .func (PySem.W.fnOf "corners" "Pointer.corners" (defArgs s_Pointer_corners) (defBody s_Pointer_corners) (defScope s_Pointer_corners) .none kV_corners dc_corners pm_corners an_corners cd_corners ct_corners), sl_corners⟩) (c_corners : PySem.W.codeIn K cd_corners "Pointer.corners" = true) (k_corners : PySem.W.keepIn K (.ref f_corners) = true)
    (a_between : PySem.W.findIn K (.ref C) "between" = some (some (.ref f_between))) (i_between : PySem.W.isFn K (.ref f_between) = true)
    (l_between : K.lookup f_between = some ⟨oc_between, od_between, .func (PySem.W.fnOf "between" "Pointer.between" (defArgs s_Pointer_between) (defBody s_Pointer_between) (defScope s_Pointer_between) .none kV_between dc_between pm_between an_between cd_between ct_between), sl_between⟩) (c_between : PySem.W.codeIn K cd_between "Pointer.between" = true) (k_between : PySem.W.keepIn K (.ref f_between) = true)
    (a_straight : PySem.W.findIn K (.ref C) "straight" = some (some (.ref f_straight))) (i_straight : PySem.W.isFn K (.ref f_straight) = true)
    (l_straight : K.lookup f_straight = some ⟨oc_straight, od_straight, .func (PySem.W.fnOf "straight" "Pointer.straight" (defArgs s_Pointer_straight) (defBody s_Pointer_straight) (defScope s_Pointer_straight) .none kV_straight dc_straight pm_straight an_straight cd_straight ct_straight), sl_straight⟩) (c_straight : PySem.W.codeIn K cd_straight "Pointer.straight" = true) (k_straight : PySem.W.keepIn K (.ref f_straight) = true)
    (a_shortest : PySem.W.findIn K (.ref C) "shortest" = some (some (.ref f_shortest))) (i_shortest : PySem.W.isFn K (.ref f_shortest) = true)
    (l_shortest : K.lookup f_shortest = some ⟨oc_shortest, od_shortest, .func (PySem.W.fnOf "shortest" "Pointer.shortest" (defArgs s_Pointer_shortest) (defBody s_Pointer_shortest) (defScope s_Pointer_shortest) .none kV_shortest dc_shortest pm_shortest an_shortest cd_shortest ct_shortest), sl_shortest⟩) (c_shortest : PySem.W.codeIn K cd_shortest "Pointer.shortest" = true) (k_shortest : PySem.W.keepIn K (.ref f_shortest) = true)
    (a_home : PySem.W.findIn K (.ref C) "home" = some (some (.ref f_home))) (i_home : PySem.W.isFn K (.ref f_home) = true)
    (l_home : K.lookup f_home = some ⟨oc_home, od_home, .func (PySem.W.fnOf "home" "Pointer.home" (defArgs s_Pointer_home) (defBody s_Pointer_home) (defScope s_Pointer_home) .none kV_home dc_home pm_home an_home cd_home ct_home), sl_home⟩) (c_home : PySem.W.codeIn K cd_home "Pointer.home" = true) (k_home : PySem.W.keepIn K (.ref f_home) = true)
    (a_look : PySem.W.findIn K (.ref C) "look" = some (some (.ref f_look))) (i_look : PySem.W.isFn K (.ref f_look) = true)
    (l_look : K.lookup f_look = some ⟨oc_look, od_look, .func (PySem.W.fnOf "look" "Pointer.look" (defArgs s_Pointer_look) (defBody s_Pointer_look) (defScope s_Pointer_look) .none kV_look dc_look pm_look an_look cd_look ct_look), sl_look⟩) (c_look : PySem.W.codeIn K cd_look "Pointer.look" = true) (k_look : PySem.W.keepIn K (.ref f_look) = true)
    (a_answer : PySem.W.findIn K (.ref C) "answer" = some (some (.ref f_answer))) (i_answer : PySem.W.isFn K (.ref f_answer) = true)
    (l_answer : K.lookup f_answer = some ⟨oc_answer, od_answer, .func (PySem.W.fnOf "answer" "Pointer.answer" (defArgs s_Pointer_answer) (defBody s_Pointer_answer) (defScope s_Pointer_answer) .none kV_answer dc_answer pm_answer an_answer cd_answer ct_answer), sl_answer⟩) (c_answer : PySem.W.codeIn K cd_answer "Pointer.answer" = true) (k_answer : PySem.W.keepIn K (.ref f_answer) = true)
    (a_split_calls : PySem.W.nsIn K mainGlobals "split_calls" = some (some (.ref f_split_calls)))
    (l_split_calls : K.lookup f_split_calls = some ⟨oc_split_calls, od_split_calls, .func (PySem.W.fnOf "split_calls" "split_calls" (defArgs s_split_calls) (defBody s_split_calls) (defScope s_split_calls) .none kV_split_calls dc_split_calls pm_split_calls an_split_calls cd_split_calls ct_split_calls), sl_split_calls⟩) (c_split_calls : PySem.W.codeIn K cd_split_calls "split_calls" = true) (k_split_calls : PySem.W.keepIn K (.ref f_split_calls) = true)
    (a_answers : PySem.W.nsIn K mainGlobals "answers" = some (some (.ref f_answers)))
    (l_answers : K.lookup f_answers = some ⟨oc_answers, od_answers, .func (PySem.W.fnOf "answers" "answers" (defArgs s_answers) (defBody s_answers) (defScope s_answers) .none kV_answers dc_answers pm_answers an_answers cd_answers ct_answers), sl_answers⟩) (c_answers : PySem.W.codeIn K cd_answers "answers" = true) (k_answers : PySem.W.keepIn K (.ref f_answers) = true)
    (g_EDGE : PySem.W.nsIn K mainGlobals "EDGE" = some (some (.int (8) t_EDGE)))
    (g_LONGEST_WAY : PySem.W.nsIn K mainGlobals "LONGEST_WAY" = some (some (.int (40) t_LONGEST_WAY)))
    (g_STEP_RIGHT : PySem.W.nsIn K mainGlobals "STEP_RIGHT" = some (some (.int (0) t_STEP_RIGHT)))
    (g_STEP_LEFT : PySem.W.nsIn K mainGlobals "STEP_LEFT" = some (some (.int (1) t_STEP_LEFT)))
    (g_STEP_UP : PySem.W.nsIn K mainGlobals "STEP_UP" = some (some (.int (2) t_STEP_UP)))
    (g_STEP_DOWN : PySem.W.nsIn K mainGlobals "STEP_DOWN" = some (some (.int (3) t_STEP_DOWN)))
    (g_BEGIN : PySem.W.nsIn K mainGlobals "BEGIN" = some (some (.int (0) t_BEGIN)))
    (g_GO : PySem.W.nsIn K mainGlobals "GO" = some (some (.int (1) t_GO)))
    (g_ZERO : PySem.W.nsIn K mainGlobals "ZERO" = some (some (.int (2) t_ZERO)))
    (g_AREA : PySem.W.nsIn K mainGlobals "AREA" = some (some (.int (3) t_AREA)))
    (g_ROUND : PySem.W.nsIn K mainGlobals "ROUND" = some (some (.int (4) t_ROUND)))
    (g_SQUARES : PySem.W.nsIn K mainGlobals "SQUARES" = some (some (.int (5) t_SQUARES)))
    (g_CORNERS : PySem.W.nsIn K mainGlobals "CORNERS" = some (some (.int (6) t_CORNERS)))
    (g_BETWEEN : PySem.W.nsIn K mainGlobals "BETWEEN" = some (some (.int (7) t_BETWEEN)))
    (g_STRAIGHT : PySem.W.nsIn K mainGlobals "STRAIGHT" = some (some (.int (8) t_STRAIGHT)))
    (g_SHORTEST : PySem.W.nsIn K mainGlobals "SHORTEST" = some (some (.int (9) t_SHORTEST)))
    (g_HOME : PySem.W.nsIn K mainGlobals "HOME" = some (some (.int (10) t_HOME)))
    (g_NOT_LET : PySem.W.nsIn K mainGlobals "NOT_LET" = some (some (.int (-1) t_NOT_LET)))
    (g_NO_SUCH_SQUARE : PySem.W.nsIn K mainGlobals "NO_SUCH_SQUARE" = some (some (.int (-2) t_NO_SUCH_SQUARE)))
    (g_NO_LOOP : PySem.W.nsIn K mainGlobals "NO_LOOP" = some (some (.int (-6) t_NO_LOOP)))
    (g_NO_PAPER : PySem.W.nsIn K mainGlobals "NO_PAPER" = some (some (.int (-9) t_NO_PAPER)))
    (g_BACK_OF : PySem.W.nsIn K mainGlobals "BACK_OF" = some (some (.ref at_BACK_OF)))
    (lt_BACK_OF : K.lookup at_BACK_OF = some ⟨.type "tuple", ot_BACK_OF, .seq #[.int (1) t_BACK_OF_0, .int (0) t_BACK_OF_1, .int (3) t_BACK_OF_2, .int (2) t_BACK_OF_3] nt_BACK_OF, st_BACK_OF⟩)
    (g_NUMBERS_OF : PySem.W.nsIn K mainGlobals "NUMBERS_OF" = some (some (.ref at_NUMBERS_OF)))
    (lt_NUMBERS_OF : K.lookup at_NUMBERS_OF = some ⟨.type "tuple", ot_NUMBERS_OF, .seq #[.int (2) t_NUMBERS_OF_0, .int (0) t_NUMBERS_OF_1, .int (0) t_NUMBERS_OF_2, .int (0) t_NUMBERS_OF_3, .int (2) t_NUMBERS_OF_4, .int (0) t_NUMBERS_OF_5, .int (0) t_NUMBERS_OF_6, .int (0) t_NUMBERS_OF_7, .int (0) t_NUMBERS_OF_8, .int (1) t_NUMBERS_OF_9, .int (0) t_NUMBERS_OF_10, .int (0) t_NUMBERS_OF_11] nt_NUMBERS_OF, st_NUMBERS_OF⟩)
    (g_WAYS_OF : PySem.W.nsIn K mainGlobals "WAYS_OF" = some (some (.ref at_WAYS_OF)))
    (lt_WAYS_OF : K.lookup at_WAYS_OF = some ⟨.type "tuple", ot_WAYS_OF, .seq #[.int (0) t_WAYS_OF_0, .int (1) t_WAYS_OF_1, .int (0) t_WAYS_OF_2, .int (1) t_WAYS_OF_3, .int (1) t_WAYS_OF_4, .int (1) t_WAYS_OF_5, .int (1) t_WAYS_OF_6, .int (2) t_WAYS_OF_7, .int (1) t_WAYS_OF_8, .int (0) t_WAYS_OF_9, .int (0) t_WAYS_OF_10, .int (0) t_WAYS_OF_11] nt_WAYS_OF, st_WAYS_OF⟩)
    (pg : PySem.W.plainGet K C Str.empty = true) (hd : PySem.W.hasDictIn K C = true) (po : PySem.W.plainOver K C = true) (sa : PySem.W.findIn K (.ref C) "__setattr__" = some (some (.builtin "object.__setattr__"))) (mk : PySem.W.makesIn K C = true) (kc : PySem.W.keepIn K (.ref C) = true)
    (n_has_paper : PySem.W.findIn K (.ref C) "has_paper" = some none)
    (n_right : PySem.W.findIn K (.ref C) "right" = some none)
    (n_up : PySem.W.findIn K (.ref C) "up" = some none)
    (n_wheel : PySem.W.findIn K (.ref C) "wheel" = some none)
    (n_steps_made : PySem.W.findIn K (.ref C) "steps_made" = some none)
    (z_len : PySem.W.nsIn K mainGlobals "len" = some none)
    (z_range : PySem.W.nsIn K mainGlobals "range" = some none)
    (z_abs : PySem.W.nsIn K mainGlobals "abs" = some none)
    (z_max : PySem.W.nsIn K mainGlobals "max" = some none)
    (hTab : Tables [.int (2), .int (0), .int (0), .int (0), .int (2), .int (0), .int (0), .int (0), .int (0), .int (1), .int (0), .int (0)] [.int (0), .int (1), .int (0), .int (1), .int (1), .int (1), .int (1), .int (2), .int (1), .int (0), .int (0), .int (0)]) :
    ∃ fd : FuncData, (∀ (s : Shared) (us : List Value), us.length = (["calls"] : List Str).length → BindsTo s fd ⟨us, []⟩ ((["calls"] : List Str).zip us)) ∧ ∀ base : Heap, K.In base → base.Ns mainGlobals mg → FnOk P w K mg base CX0 6 fa fd ["calls"] (spAnswers K) := by
  have e := hfa.symm.trans (PySem.W.mg_of X G a_answers)
  cases e
  have T : Txt K mg C := ⟨⟨_, PySem.W.mg_of X G g_EDGE⟩, ⟨_, PySem.W.mg_of X G g_LONGEST_WAY⟩, ⟨_, PySem.W.mg_of X G g_STEP_RIGHT⟩, ⟨_, PySem.W.mg_of X G g_STEP_LEFT⟩, ⟨_, PySem.W.mg_of X G g_STEP_UP⟩, ⟨_, PySem.W.mg_of X G g_STEP_DOWN⟩, ⟨_, PySem.W.mg_of X G g_BEGIN⟩, ⟨_, PySem.W.mg_of X G g_GO⟩, ⟨_, PySem.W.mg_of X G g_ZERO⟩, ⟨_, PySem.W.mg_of X G g_AREA⟩, ⟨_, PySem.W.mg_of X G g_ROUND⟩, ⟨_, PySem.W.mg_of X G g_SQUARES⟩, ⟨_, PySem.W.mg_of X G g_CORNERS⟩, ⟨_, PySem.W.mg_of X G g_BETWEEN⟩, ⟨_, PySem.W.mg_of X G g_STRAIGHT⟩, ⟨_, PySem.W.mg_of X G g_SHORTEST⟩, ⟨_, PySem.W.mg_of X G g_HOME⟩, ⟨_, PySem.W.mg_of X G g_NOT_LET⟩, ⟨_, PySem.W.mg_of X G g_NO_SUCH_SQUARE⟩, ⟨_, PySem.W.mg_of X G g_NO_LOOP⟩, ⟨_, PySem.W.mg_of X G g_NO_PAPER⟩, ⟨_, PySem.W.mg_of X G g_BACK_OF, fun H => .inr ⟨_, _, _, lt_BACK_OF, rfl, rfl, (by show 4 ≤ sizeLine; decide), .cons ⟨_, rfl⟩ (.cons ⟨_, rfl⟩ (.cons ⟨_, rfl⟩ (.cons ⟨_, rfl⟩ (.nil))))⟩⟩, ⟨_, PySem.W.mg_of X G g_NUMBERS_OF, fun H => .inr ⟨_, _, _, lt_NUMBERS_OF, rfl, rfl, (by show 12 ≤ sizeLine; decide), .cons ⟨_, rfl⟩ (.cons ⟨_, rfl⟩ (.cons ⟨_, rfl⟩ (.cons ⟨_, rfl⟩ (.cons ⟨_, rfl⟩ (.cons ⟨_, rfl⟩ (.cons ⟨_, rfl⟩ (.cons ⟨_, rfl⟩ (.cons ⟨_, rfl⟩ (.cons ⟨_, rfl⟩ (.cons ⟨_, rfl⟩ (.cons ⟨_, rfl⟩ (.nil))))))))))))⟩⟩, ⟨_, PySem.W.mg_of X G g_WAYS_OF, fun H => .inr ⟨_, _, _, lt_WAYS_OF, rfl, rfl, (by show 12 ≤ sizeLine; decide), .cons ⟨_, rfl⟩ (.cons ⟨_, rfl⟩ (.cons ⟨_, rfl⟩ (.cons ⟨_, rfl⟩ (.cons ⟨_, rfl⟩ (.cons ⟨_, rfl⟩ (.cons ⟨_, rfl⟩ (.cons ⟨_, rfl⟩ (.cons ⟨_, rfl⟩ (.cons ⟨_, rfl⟩ (.cons ⟨_, rfl⟩ (.cons ⟨_, rfl⟩ (.nil))))))))))))⟩⟩, PySem.W.mg_of X G aC, ⟨pg, hd, po, sa⟩, n_has_paper, n_right, n_up, n_wheel, n_steps_made, PySem.W.mg_none_of X G z_len, PySem.W.mg_none_of X G z_range, PySem.W.mg_none_of X G z_abs, PySem.W.mg_none_of X G z_max⟩
  have F_end_of := fun_mk (st := s_end_of) l_end_of c_end_of k_end_of
  have b_end_of := F_end_of.binds (ps := ["right", "up", "way"]) fun _ _ _ _ _ _ us hl => match us, hl with | [_, _, _], _ => rfl
  have F_is_on_paper := fun_mk (st := s_is_on_paper) l_is_on_paper c_is_on_paper k_is_on_paper
  have b_is_on_paper := F_is_on_paper.binds (ps := ["corner"]) fun _ _ _ _ _ _ us hl => match us, hl with | [_], _ => rfl
  have F_is_way := fun_mk (st := s_is_way) l_is_way c_is_way k_is_way
  have b_is_way := F_is_way.binds (ps := ["right", "up", "way"]) fun _ _ _ _ _ _ us hl => match us, hl with | [_, _, _], _ => rfl
  have F_is_loop := fun_mk (st := s_is_loop) l_is_loop c_is_loop k_is_loop
  have b_is_loop := F_is_loop.binds (ps := ["right", "up", "way"]) fun _ _ _ _ _ _ us hl => match us, hl with | [_, _, _], _ => rfl
  have F_upright_steps := fun_mk (st := s_upright_steps) l_upright_steps c_upright_steps k_upright_steps
  have b_upright_steps := F_upright_steps.binds (ps := ["right", "up", "way"]) fun _ _ _ _ _ _ us hl => match us, hl with | [_, _, _], _ => rfl
  have F_turning := fun_mk (st := s_turning) l_turning c_turning k_turning
  have b_turning := F_turning.binds (ps := ["right", "up", "way"]) fun _ _ _ _ _ _ us hl => match us, hl with | [_, _, _], _ => rfl
  have F_times_round := fun_mk (st := s_times_round) l_times_round c_times_round k_times_round
  have b_times_round := F_times_round.binds (ps := ["square_right", "square_up", "uprights"]) fun _ _ _ _ _ _ us hl => match us, hl with | [_, _, _], _ => rfl
  have F_corners_come_to := fun_mk (st := s_corners_come_to) l_corners_come_to c_corners_come_to k_corners_come_to
  have b_corners_come_to := F_corners_come_to.binds (ps := ["right", "up", "way"]) fun _ _ _ _ _ _ us hl => match us, hl with | [_, _, _], _ => rfl
  have F_straightened := fun_mk (st := s_straightened) l_straightened c_straightened k_straightened
  have b_straightened := F_straightened.binds (ps := ["way"]) fun _ _ _ _ _ _ us hl => match us, hl with | [_], _ => rfl
  have F_row_length := fun_mk (st := s_row_length) l_row_length c_row_length k_row_length
  have b_row_length := F_row_length.binds (ps := ["squares"]) fun _ _ _ _ _ _ us hl => match us, hl with | [_], _ => rfl
  have F_loop_round := fun_mk (st := s_loop_round) l_loop_round c_loop_round k_loop_round
  have b_loop_round := F_loop_round.binds (ps := ["squares"]) fun _ _ _ _ _ _ us hl => match us, hl with | [_], _ => rfl
  have F_init := fun_mk (st := s_Pointer___init__) l_init c_init k_init
  have b_init := F_init.binds (ps := ["self"]) fun _ _ _ _ _ _ us hl => match us, hl with | [_], _ => rfl
  have F_begin := fun_mk (st := s_Pointer_begin) l_begin c_begin k_begin
  have b_begin := F_begin.binds (ps := ["self", "right", "up"]) fun _ _ _ _ _ _ us hl => match us, hl with | [_, _, _], _ => rfl
  have F_walk := fun_mk (st := s_Pointer_walk) l_walk c_walk k_walk
  have b_walk := F_walk.binds (ps := ["self", "way"]) fun _ _ _ _ _ _ us hl => match us, hl with | [_, _], _ => rfl
  have F_go := fun_mk (st := s_Pointer_go) l_go c_go k_go
  have b_go := F_go.binds (ps := ["self", "way"]) fun _ _ _ _ _ _ us hl => match us, hl with | [_, _], _ => rfl
  have F_zero := fun_mk (st := s_Pointer_zero) l_zero c_zero k_zero
  have b_zero := F_zero.binds (ps := ["self"]) fun _ _ _ _ _ _ us hl => match us, hl with | [_], _ => rfl
  have F_area := fun_mk (st := s_Pointer_area) l_area c_area k_area
  have b_area := F_area.binds (ps := ["self", "way"]) fun _ _ _ _ _ _ us hl => match us, hl with | [_, _], _ => rfl
  have F_round_square := fun_mk (st := s_Pointer_round_square) l_round_square c_round_square k_round_square
  have b_round_square := F_round_square.binds (ps := ["self", "square_right", "square_up", "way"]) fun _ _ _ _ _ _ us hl => match us, hl with | [_, _, _, _], _ => rfl
  have F_squares := fun_mk (st := s_Pointer_squares) l_squares c_squares k_squares
  have b_squares := F_squares.binds (ps := ["self", "way"]) fun _ _ _ _ _ _ us hl => match us, hl with | [_, _], _ => rfl
  have F_corners := fun_mk (st := s_Pointer_corners) l_corners c_corners k_corners
  have b_corners := F_corners.binds (ps := ["self", "way"]) fun _ _ _ _ _ _ us hl => match us, hl with | [_, _], _ => rfl
  have F_between := fun_mk (st := s_Pointer_between) l_between c_between k_between
  have b_between := F_between.binds (ps := ["self", "first", "second"]) fun _ _ _ _ _ _ us hl => match us, hl with | [_, _, _], _ => rfl
  have F_straight := fun_mk (st := s_Pointer_straight) l_straight c_straight k_straight
  have b_straight := F_straight.binds (ps := ["self", "way"]) fun _ _ _ _ _ _ us hl => match us, hl with | [_, _], _ => rfl
  have F_shortest := fun_mk (st := s_Pointer_shortest) l_shortest c_shortest k_shortest
  have b_shortest := F_shortest.binds (ps := ["self", "squares"]) fun _ _ _ _ _ _ us hl => match us, hl with | [_, _], _ => rfl
  have F_home := fun_mk (st := s_Pointer_home) l_home c_home k_home
  have b_home := F_home.binds (ps := ["self"]) fun _ _ _ _ _ _ us hl => match us, hl with | [_], _ => rfl
  have F_look := fun_mk (st := s_Pointer_look) l_look c_look k_look
  have b_look := F_look.binds (ps := ["self"]) fun _ _ _ _ _ _ us hl => match us, hl with | [_], _ => rfl
  have F_answer := fun_mk (st := s_Pointer_answer) l_answer c_answer k_answer
  have b_answer := F_answer.binds (ps := ["self", "call"]) fun _ _ _ _ _ _ us hl => match us, hl with | [_, _], _ => rfl
  have F_split_calls := fun_mk (st := s_split_calls) l_split_calls c_split_calls k_split_calls
  have b_split_calls := F_split_calls.binds (ps := ["calls"]) fun _ _ _ _ _ _ us hl => match us, hl with | [_], _ => rfl
  have F_answers := fun_mk (st := s_answers) l_answers c_answers k_answers
  have b_answers := F_answers.binds (ps := ["calls"]) fun _ _ _ _ _ _ us hl => match us, hl with | [_], _ => rfl
  refine ⟨PySem.W.fnOf "answers" "answers" (defArgs s_answers) (defBody s_answers) (defScope s_answers) .none kV_answers dc_answers pm_answers an_answers cd_answers ct_answers, fun s us hu => match us, hu with | [_], _ => .of_eq rfl, fun base _ _ => ?_⟩
  have G_end_of : Fn P w K mg base 1 "end_of" ["right", "up", "way"] (spEnd K) := ⟨_, _, ok_end F_end_of T, PySem.W.mg_of X G a_end_of, k_end_of, b_end_of⟩
  have G_is_on_paper : Fn P w K mg base 1 "is_on_paper" ["corner"] (spOn K) := ⟨_, _, ok_on F_is_on_paper T, PySem.W.mg_of X G a_is_on_paper, k_is_on_paper, b_is_on_paper⟩
  have G_is_way : Fn P w K mg base 2 "is_way" ["right", "up", "way"] (spWay K) := ⟨_, _, ok_way F_is_way T G_end_of G_is_on_paper, PySem.W.mg_of X G a_is_way, k_is_way, b_is_way⟩
  have G_is_loop : Fn P w K mg base 2 "is_loop" ["right", "up", "way"] (spLoop K) := ⟨_, _, ok_loop F_is_loop T G_end_of, PySem.W.mg_of X G a_is_loop, k_is_loop, b_is_loop⟩
  have G_upright_steps : Fn P w K mg base 1 "upright_steps" ["right", "up", "way"] (spUpr K) := ⟨_, _, ok_upr F_upright_steps T, PySem.W.mg_of X G a_upright_steps, k_upright_steps, b_upright_steps⟩
  have G_turning : Fn P w K mg base 2 "turning" ["right", "up", "way"] (spTurn K) := ⟨_, _, ok_turn F_turning T G_upright_steps, PySem.W.mg_of X G a_turning, k_turning, b_turning⟩
  have G_times_round : Fn P w K mg base 1 "times_round" ["square_right", "square_up", "uprights"] (spTimes K) := ⟨_, _, ok_times F_times_round T, PySem.W.mg_of X G a_times_round, k_times_round, b_times_round⟩
  have G_begin : Me P w K mg base C 1 "begin" ["self", "right", "up"] (spBegin C) := ⟨_, _, ok_begin F_begin T, ⟨a_begin, i_begin, k_begin⟩, b_begin⟩
  have G_corners_come_to : Fn P w K mg base 2 "corners_come_to" ["right", "up", "way"] (spCome K) := ⟨_, _, ok_come F_corners_come_to T G_end_of, PySem.W.mg_of X G a_corners_come_to, k_corners_come_to, b_corners_come_to⟩
  have G_straightened : Fn P w K mg base 1 "straightened" ["way"] (spStraight K) := ⟨_, _, ok_straight1 F_straightened T, PySem.W.mg_of X G a_straightened, k_straightened, b_straightened⟩
  have G_row_length : Fn P w K mg base 1 "row_length" ["squares"] spRow := ⟨_, _, ok_row F_row_length T, PySem.W.mg_of X G a_row_length, k_row_length, b_row_length⟩
  have G_loop_round : Fn P w K mg base 2 "loop_round" ["squares"] spLoopRound := ⟨_, _, ok_loopround F_loop_round T G_row_length, PySem.W.mg_of X G a_loop_round, k_loop_round, b_loop_round⟩
  have G_walk : Me P w K mg base C 3 "walk" ["self", "way"] (spWalk K C) := ⟨_, _, ok_walk F_walk T G_turning G_end_of, ⟨a_walk, i_walk, k_walk⟩, b_walk⟩
  have G_go : Me P w K mg base C 4 "go" ["self", "way"] (spW K C .go) := ⟨_, _, ok_go F_go T G_is_way G_walk, ⟨a_go, i_go, k_go⟩, b_go⟩
  have G_zero : Me P w K mg base C 1 "zero" ["self"] (sp0 C .zero) := ⟨_, _, ok_zero F_zero T, ⟨a_zero, i_zero, k_zero⟩, b_zero⟩
  have G_area : Me P w K mg base C 3 "area" ["self", "way"] (spW K C .area) := ⟨_, _, ok_area F_area T G_is_way G_is_loop G_turning, ⟨a_area, i_area, k_area⟩, b_area⟩
  have G_round_square : Me P w K mg base C 3 "round_square" ["self", "square_right", "square_up", "way"] (spRound K C) := ⟨_, _, ok_round F_round_square T G_is_way G_is_loop G_upright_steps G_times_round, ⟨a_round_square, i_round_square, k_round_square⟩, b_round_square⟩
  have G_squares : Me P w K mg base C 3 "squares" ["self", "way"] (spW K C .squares) := ⟨_, _, ok_squares F_squares T G_is_way G_is_loop G_upright_steps G_times_round, ⟨a_squares, i_squares, k_squares⟩, b_squares⟩
  have G_corners : Me P w K mg base C 3 "corners" ["self", "way"] (spW K C .corners) := ⟨_, _, ok_corners F_corners T G_is_way G_is_loop G_upright_steps G_times_round G_corners_come_to, ⟨a_corners, i_corners, k_corners⟩, b_corners⟩
  have G_between : Me P w K mg base C 3 "between" ["self", "first", "second"] (spBetween K C) := ⟨_, _, ok_between F_between T G_is_way G_end_of G_turning, ⟨a_between, i_between, k_between⟩, b_between⟩
  have G_straight : Me P w K mg base C 3 "straight" ["self", "way"] (spW K C .straight) := ⟨_, _, ok_straight F_straight T G_is_way G_straightened, ⟨a_straight, i_straight, k_straight⟩, b_straight⟩
  have G_shortest : Me P w K mg base C 3 "shortest" ["self", "squares"] (spShortest C) := ⟨_, _, ok_shortest F_shortest T G_loop_round, ⟨a_shortest, i_shortest, k_shortest⟩, b_shortest⟩
  have G_home : Me P w K mg base C 4 "home" ["self"] (sp0 C .home) := ⟨_, _, ok_home F_home T G_walk, ⟨a_home, i_home, k_home⟩, b_home⟩
  have G_look : Me P w K mg base C 1 "look" ["self"] (sp0 C .look) := ⟨_, _, ok_look F_look T, ⟨a_look, i_look, k_look⟩, b_look⟩
  have G_answer : Me P w K mg base C 5 "answer" ["self", "call"] (spAnswer K C) := ⟨_, _, ok_answer F_answer T G_begin G_go G_zero G_area G_round_square G_squares G_corners G_between G_straight G_shortest G_home G_look, ⟨a_answer, i_answer, k_answer⟩, b_answer⟩
  have G_split_calls : Fn P w K mg base 1 "split_calls" ["calls"] (spSplit K) := ⟨_, _, ok_split F_split_calls T hTab, PySem.W.mg_of X G a_split_calls, k_split_calls, b_split_calls⟩
  have M_Pointer : Mak P w K mg base C 1 "Pointer" ["self"] (spInit C) := ⟨_, _, ok_init F_init T, ⟨mk, a_init, i_init, kc⟩, PySem.W.mg_of X G aC, b_init⟩
  exact ok_answers F_answers T M_Pointer G_split_calls G_answer
end WA
open PySem PySem.W PyProof.Rows
theorem WA.hTab : WA.Tables [.int (2), .int (0), .int (0), .int (0), .int (2), .int (0), .int (0), .int (0), .int (0), .int (1), .int (0), .int (0)] [.int (0), .int (1), .int (0), .int (1), .int (1), .int (1), .int (1), .int (2), .int (1), .int (0), .int (0), .int (0)] := by
  intro p n k h
  unfold PyMu55.shape at h
  repeat' split at h
  all_goals first
    | (cases h; subst p; exact ⟨by decide, by decide, rfl, rfl⟩)
    | cases h
set_option maxRecDepth 100000 in
set_option maxHeartbeats 0 in
theorem PySem.Challenge.cw_wheelarea_s01_answers_holds : PySem.Challenge.rw_wheelarea_s01_answers.Holds := by
  w_on; k_headS; (case hw => exact ⟨[.list [.int 2]], by decide +kernel, by decide +kernel⟩)
  k_fillS
  refine L2.walk_specK (r := PySem.Challenge.rw_wheelarea_s01_answers) (k := 6) (CX := L2.CX0) (ps := ["calls"]) (sp := WA.spAnswers) (by decide +kernel) rfl rfl ⟨rfl, by decide, by decide⟩ (fun w h Y => PySem.W.kIn_of Y) ?F ?S (fun _ _ _ _ z => z)
  case F =>
    intro w mg fa h Y KX G hmg
    refine' WA.all_mk KX G hmg ?aC ?a_end_of ?l_end_of ?c_end_of ?k_end_of ?a_is_on_paper ?l_is_on_paper ?c_is_on_paper ?k_is_on_paper ?a_is_way ?l_is_way ?c_is_way ?k_is_way ?a_is_loop ?l_is_loop ?c_is_loop ?k_is_loop ?a_upright_steps ?l_upright_steps ?c_upright_steps ?k_upright_steps ?a_turning ?l_turning ?c_turning ?k_turning ?a_times_round ?l_times_round ?c_times_round ?k_times_round ?a_corners_come_to ?l_corners_come_to ?c_corners_come_to ?k_corners_come_to ?a_straightened ?l_straightened ?c_straightened ?k_straightened ?a_row_length ?l_row_length ?c_row_length ?k_row_length ?a_loop_round ?l_loop_round ?c_loop_round ?k_loop_round ?a_init ?i_init ?l_init ?c_init ?k_init ?a_begin ?i_begin ?l_begin ?c_begin ?k_begin ?a_walk ?i_walk ?l_walk ?c_walk ?k_walk ?a_go ?i_go ?l_go ?c_go ?k_go ?a_zero ?i_zero ?l_zero ?c_zero ?k_zero ?a_area ?i_area ?l_area ?c_area ?k_area ?a_round_square ?i_round_square ?l_round_square ?c_round_square ?k_round_square ?a_squares ?i_squares ?l_squares ?c_squares ?k_squares ?a_corners ?i_corners ?l_corners ?c_corners ?k_corners ?a_between ?i_between ?l_between ?c_between ?k_between ?a_straight ?i_straight ?l_straight ?c_straight ?k_straight ?a_shortest ?i_shortest ?l_shortest ?c_shortest ?k_shortest ?a_home ?i_home ?l_home ?c_home ?k_home ?a_look ?i_look ?l_look ?c_look ?k_look ?a_answer ?i_answer ?l_answer ?c_answer ?k_answer ?a_split_calls ?l_split_calls ?c_split_calls ?k_split_calls ?a_answers ?l_answers ?c_answers ?k_answers ?g_EDGE ?g_LONGEST_WAY ?g_STEP_RIGHT ?g_STEP_LEFT ?g_STEP_UP ?g_STEP_DOWN ?g_BEGIN ?g_GO ?g_ZERO ?g_AREA ?g_ROUND ?g_SQUARES ?g_CORNERS ?g_BETWEEN ?g_STRAIGHT ?g_SHORTEST ?g_HOME ?g_NOT_LET ?g_NO_SUCH_SQUARE ?g_NO_LOOP ?g_NO_PAPER ?g_BACK_OF ?lt_BACK_OF ?g_NUMBERS_OF ?lt_NUMBERS_OF ?g_WAYS_OF ?lt_WAYS_OF ?pg ?hd ?po ?sa ?mk ?kc ?n_has_paper ?n_right ?n_up ?n_wheel ?n_steps_made ?z_len ?z_range ?z_abs ?z_max WA.hTab
    (case aC => k_is)
    (case a_end_of => k_is)
    (case l_end_of => k_is)
    (case c_end_of => k_is)
    (case k_end_of => k_is)
    (case a_is_on_paper => k_is)
    (case l_is_on_paper => k_is)
    (case c_is_on_paper => k_is)
    (case k_is_on_paper => k_is)
    (case a_is_way => k_is)
    (case l_is_way => k_is)
    (case c_is_way => k_is)
    (case k_is_way => k_is)
    (case a_is_loop => k_is)
    (case l_is_loop => k_is)
    (case c_is_loop => k_is)
    (case k_is_loop => k_is)
    (case a_upright_steps => k_is)
    (case l_upright_steps => k_is)
    (case c_upright_steps => k_is)
    (case k_upright_steps => k_is)
    (case a_turning => k_is)
    (case l_turning => k_is)
    (case c_turning => k_is)
    (case k_turning => k_is)
    (case a_times_round => k_is)
    (case l_times_round => k_is)
    (case c_times_round => k_is)
    (case k_times_round => k_is)
    (case a_corners_come_to => k_is)
    (case l_corners_come_to => k_is)
    (case c_corners_come_to => k_is)
    (case k_corners_come_to => k_is)
    (case a_straightened => k_is)
    (case l_straightened => k_is)
    (case c_straightened => k_is)
    (case k_straightened => k_is)
    (case a_row_length => k_is)
    (case l_row_length => k_is)
    (case c_row_length => k_is)
    (case k_row_length => k_is)
    (case a_loop_round => k_is)
    (case l_loop_round => k_is)
    (case c_loop_round => k_is)
    (case k_loop_round => k_is)
    (case a_init => k_is)
    (case i_init => k_is)
    (case l_init => k_is)
    (case c_init => k_is)
    (case k_init => k_is)
    (case a_begin => k_is)
    (case i_begin => k_is)
    (case l_begin => k_is)
    (case c_begin => k_is)
    (case k_begin => k_is)
    (case a_walk => k_is)
    (case i_walk => k_is)
    (case l_walk => k_is)
    (case c_walk => k_is)
    (case k_walk => k_is)
    (case a_go => k_is)
    (case i_go => k_is)
    (case l_go => k_is)
    (case c_go => k_is)
    (case k_go => k_is)
    (case a_zero => k_is)
    (case i_zero => k_is)
    (case l_zero => k_is)
    (case c_zero => k_is)
    (case k_zero => k_is)
    (case a_area => k_is)
    (case i_area => k_is)
    (case l_area => k_is)
    (case c_area => k_is)
    (case k_area => k_is)
    (case a_round_square => k_is)
    (case i_round_square => k_is)
    (case l_round_square => k_is)
    (case c_round_square => k_is)
    (case k_round_square => k_is)
    (case a_squares => k_is)
    (case i_squares => k_is)
    (case l_squares => k_is)
    (case c_squares => k_is)
    (case k_squares => k_is)
    (case a_corners => k_is)
    (case i_corners => k_is)
    (case l_corners => k_is)
    (case c_corners => k_is)
    (case k_corners => k_is)
    (case a_between => k_is)
    (case i_between => k_is)
    (case l_between => k_is)
    (case c_between => k_is)
    (case k_between => k_is)
    (case a_straight => k_is)
    (case i_straight => k_is)
    (case l_straight => k_is)
    (case c_straight => k_is)
    (case k_straight => k_is)
    (case a_shortest => k_is)
    (case i_shortest => k_is)
    (case l_shortest => k_is)
    (case c_shortest => k_is)
    (case k_shortest => k_is)
    (case a_home => k_is)
    (case i_home => k_is)
    (case l_home => k_is)
    (case c_home => k_is)
    (case k_home => k_is)
    (case a_look => k_is)
    (case i_look => k_is)
    (case l_look => k_is)
    (case c_look => k_is)
    (case k_look => k_is)
    (case a_answer => k_is)
    (case i_answer => k_is)
    (case l_answer => k_is)
    (case c_answer => k_is)
    (case k_answer => k_is)
    (case a_split_calls => k_is)
    (case l_split_calls => k_is)
    (case c_split_calls => k_is)
    (case k_split_calls => k_is)
    (case a_answers => k_is)
    (case l_answers => k_is)
    (case c_answers => k_is)
    (case k_answers => k_is)
    (case g_EDGE => k_is)
    (case g_LONGEST_WAY => k_is)
    (case g_STEP_RIGHT => k_is)
    (case g_STEP_LEFT => k_is)
    (case g_STEP_UP => k_is)
    (case g_STEP_DOWN => k_is)
    (case g_BEGIN => k_is)
    (case g_GO => k_is)
    (case g_ZERO => k_is)
    (case g_AREA => k_is)
    (case g_ROUND => k_is)
    (case g_SQUARES => k_is)
    (case g_CORNERS => k_is)
    (case g_BETWEEN => k_is)
    (case g_STRAIGHT => k_is)
    (case g_SHORTEST => k_is)
    (case g_HOME => k_is)
    (case g_NOT_LET => k_is)
    (case g_NO_SUCH_SQUARE => k_is)
    (case g_NO_LOOP => k_is)
    (case g_NO_PAPER => k_is)
    (case g_BACK_OF => k_is)
    (case lt_BACK_OF => k_is)
    (case g_NUMBERS_OF => k_is)
    (case lt_NUMBERS_OF => k_is)
    (case g_WAYS_OF => k_is)
    (case lt_WAYS_OF => k_is)
    (case pg => k_is)
    (case hd => k_is)
    (case po => k_is)
    (case sa => k_is)
    (case mk => k_is)
    (case kc => k_is)
    (case n_has_paper => k_is)
    (case n_right => k_is)
    (case n_up => k_is)
    (case n_wheel => k_is)
    (case n_steps_made => k_is)
    (case z_len => k_is)
    (case z_range => k_is)
    (case z_abs => k_is)
    (case z_max => k_is)
  case S =>
    intro K H xs a hO hwi hask hx
    cases hx with
    | cons h1 h2 =>
      cases h2
      cases h1 with
      | lst hs ha =>
        have e := L2.ints_dw a.1 _ ha
        subst e
        have q : ((Codec.inLen 0 6180 a.1 && a.1.all (Codec.inInt 0 99)) && true) = true := hwi
        rw [Bool.and_eq_true, Bool.and_eq_true] at q
        exact ⟨_, a.1, rfl, hs, Nat.le_trans (Codec.inNat_iff.mp q.1.1).2 (by decide), hask, fun H' p hp => .lst (L2.SqL.of hp) (L2.dw_ints _)⟩
#print axioms PySem.Challenge.cw_wheelarea_s01_answers_holds
end
