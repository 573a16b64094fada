import PyProof.Rows.All
import Wide.All
import OpenK.AllK
import Wide.FinOn
import PyProof.EqAt
import PyProof.EqKinds
import PyProof.TupleCall
import KE.BitLaws
import KE.IntBitsLaws
import KE.OsGo
import PySem.Challenge.RW_planesheard_s01_answers
set_option Elab.async false
set_option linter.all false
set_option maxRecDepth 100000
set_option maxHeartbeats 4000000
/-! THE HAND LAYER, for ints, bools, texts, own classes, lists, tuples, dicts, comprehensions, walks over dicts, enumerate, zip, reversed, texts, calls, loops. Paste it whole ahead of your own text; what your proof does not reach may be deleted. -/
namespace L2
open PySem PySem.Spec PyProof.Rows

/-- a key: an int or a str -/
abbrev Key := Sum Int Str
def keyIs : Key → Value → Bool
  | .inl k, v => Value.isInt k v
  | .inr x, v => Value.isStrOf x v
def keyH (w : World) : Key → Int
  | .inl k => hashInt k
  | .inr x => hashStr w x
theorem keyIs_shape : ∀ {k : Key} {v : Value}, keyIs k v = true → (∃ i t, k = Sum.inl i ∧ v = Value.int i t) ∨ (∃ x t, k = Sum.inr x ∧ v = Value.str x t)
  | .inl i, v, h => by
    obtain ⟨t, e⟩ := Value.isInt_shape (k := i) (v := v) h
    exact .inl ⟨i, t, rfl, e⟩
  | .inr x, v, h => by
    obtain ⟨t, e⟩ := Value.isStrOf_shape (x := x) (v := v) h
    exact .inr ⟨x, t, rfl, e⟩
theorem keyIs_int (i : Int) (t : Tok) : keyIs (.inl i) (.int i t) = true := by simp [keyIs, Value.isInt]
theorem key_ll (a b : Int) : decide ((Sum.inl a : Key) = Sum.inl b) = (a == b) := by
  by_cases e : a = b
  · subst e; simp
  · have h : ¬ (Sum.inl a : Key) = Sum.inl b := fun q => e (Sum.inl.inj q)
    rw [decide_eq_false h]
    exact (beq_eq_false_iff_ne.mpr e).symm
theorem key_rr (a b : Str) : decide ((Sum.inr a : Key) = Sum.inr b) = decide (a = b) := by
  by_cases e : a = b
  · subst e; simp
  · have h : ¬ (Sum.inr a : Key) = Sum.inr b := fun q => e (Sum.inr.inj q)
    rw [decide_eq_false h, decide_eq_false e]
theorem key_lr (a : Int) (b : Str) : decide ((Sum.inl a : Key) = Sum.inr b) = false := decide_eq_false (fun q => nomatch q)
theorem key_rl (a : Str) (b : Int) : decide ((Sum.inr a : Key) = Sum.inl b) = false := decide_eq_false (fun q => nomatch q)

def mixKind (prog : Program) (w : World) : PySem.KeyKind prog w Key where
  is := keyIs
  hash := keyH w
  inj := fun v a b ha hb => by
    rcases keyIs_shape ha with ⟨i, t, rfl, rfl⟩ | ⟨x, t, rfl, rfl⟩
    · rcases keyIs_shape hb with ⟨j, u, rfl, e⟩ | ⟨y, u, rfl, e⟩
      · injection e with e1 _; rw [e1]
      · exact nomatch e
    · rcases keyIs_shape hb with ⟨j, u, rfl, e⟩ | ⟨y, u, rfl, e⟩
      · exact nomatch e
      · injection e with e1 _; rw [e1]
  byValue := fun k v h => by
    rcases keyIs_shape h with ⟨i, t, rfl, rfl⟩ | ⟨x, t, rfl, rfl⟩ <;> rfl
  pyHash := fun hv h => by
    rcases keyIs_shape hv with ⟨i, t, rfl, rfl⟩ | ⟨x, t, rfl, rfl⟩
    · exact wpAny_pyHash_int h
    · exact wpAny_pyHash_str h
  eqBool := fun hu hv h => by
    rcases keyIs_shape hu with ⟨i, t, rfl, rfl⟩ | ⟨x, t, rfl, rfl⟩
    · rcases keyIs_shape hv with ⟨j, u, rfl, rfl⟩ | ⟨y, u, rfl, rfl⟩
      · rw [key_ll] at h; exact wpAny_eqBool_int h
      · rw [key_lr] at h; exact SeqAt.EqAt.int_str i t y u _ _ _ _ h
    · rcases keyIs_shape hv with ⟨j, u, rfl, rfl⟩ | ⟨y, u, rfl, rfl⟩
      · rw [key_rl] at h; exact SeqAt.EqAt.str_int x t j u _ _ _ _ h
      · rw [key_rr] at h; exact wpAny_eqBool_str h
  «strs» := fun k x t v h => by
    rcases keyIs_shape h with ⟨i, u, rfl, e⟩ | ⟨y, u, rfl, e⟩
    · exact nomatch e
    · injection e with e1 _
      subst e1
      cases v <;> rfl

end L2

namespace L2
open PySem PySem.Spec PyProof.Rows

/-- a value, without the heap -/
inductive V where
  | non | bl (b : Bool) | int (i : Int) | str (x : Str) | byt (b : Array UInt8) | flt (b : UInt64) | ref (a : Addr) | ty (n : String)
  deriving DecidableEq

def RelV : V → Value → Prop
  | .non, u => u = Value.none
  | .bl b, u => u = Value.bool b
  | .int i, u => ∃ t, u = Value.int i t
  | .str x, u => ∃ t, u = Value.str x t
  | .byt b, u => ∃ t, u = Value.bytes b t
  | .flt b, u => ∃ t, u = Value.float b t
  | .ref a, u => u = Value.ref a
  | .ty n, u => u = Value.type n

abbrev Vals : List V → List Value → Prop := Paired RelV
theorem Vals.length {xs : List V} {us : List Value} (r : Vals xs us) : xs.length = us.length := Paired.length r
theorem Vals.get : ∀ {xs : List V} {us : List Value} {i : Nat} {x : V}, Vals xs us → xs[i]? = some x → ∃ u, us[i]? = some u ∧ RelV x u
  | _, _, _, _, .nil, e => by simp at e
  | _, _, 0, _, .cons r _, e => by simp at e; subst e; exact ⟨_, rfl, r⟩
  | _, _, i + 1, x, .cons _ t, e => by
    obtain ⟨u, h1, h2⟩ := Vals.get (i := i) (x := x) t (by simpa using e)
    exact ⟨u, by simpa using h1, h2⟩
theorem Vals.set {x : V} {u : Value} (r : RelV x u) : ∀ {xs : List V} {us : List Value} (i : Nat), Vals xs us → Vals (xs.set i x) (us.set i u)
  | _, _, _, .nil => .nil
  | _, _, 0, .cons _ t => .cons r t
  | _, _, i + 1, .cons q t => .cons q (Vals.set r i t)
theorem Vals.append : ∀ {xs ys : List V} {us ws : List Value}, Vals xs us → Vals ys ws → Vals (xs ++ ys) (us ++ ws)
  | _, _, _, _, .nil, s => s
  | _, _, _, _, .cons r t, s => .cons r (Vals.append t s)
theorem Vals.take : ∀ {xs : List V} {us : List Value} (n : Nat), Vals xs us → Vals (xs.take n) (us.take n)
  | _, _, 0, _ => .nil
  | _, _, _ + 1, .nil => .nil
  | _, _, n + 1, .cons r t => .cons r (Vals.take n t)
theorem Vals.drop : ∀ {xs : List V} {us : List Value} (n : Nat), Vals xs us → Vals (xs.drop n) (us.drop n)
  | _, _, 0, r => r
  | _, _, _ + 1, .nil => .nil
  | _, _, n + 1, .cons _ t => Vals.drop n t
def RelO : Option V → Option Value → Prop
  | some v, some u => RelV v u
  | none, none => True
  | _, _ => False
def KV {κ : Type} : List (κ × V) → List (κ × Value) → Prop := Paired fun (p : κ × V) (q : κ × Value) => p.1 = q.1 ∧ RelV p.2 q.2

/-- a key of a dict (00_mix): an int or a text -/
def kV : Key → V
  | .inl i => .int i
  | .inr x => .str x

/-- what stands at a tracked address -/
inductive HO where
  /-- a list -/
  | lst (xs : List V)
  /-- a tuple (never changes) -/
  | tup (xs : List V)
  /-- a dict whose keys are ints and texts; one whose keys are tuples of ints and texts (the empty one is both) -/
  | dK (kvs : List (Key × V)) | dT (kvs : List (List Key × V))
  /-- a set of ints: its members, its size -/
  | set (S : Int → Bool) (n : Nat)
  /-- an instance of the class at C, its dict at dx, its attributes -/
  | ins (C dx : Addr) (fs : List (Str × V))
  /-- the dict of the instance at x -/
  | own (x : Addr)
  /-- the dict of an exception -/
  | xd (fs : List (Str × V))
  /-- a bound method, f of x -/
  | met (f x : Addr)
  /-- a range object lo, lo + 1, .. below hi -/
  | rng (lo hi : Int)
  /-- a thing that is known to the object (the script; a dict while a loop walks it): read, never written while it is so -/
  | frz (o : Obj) (u : HO)
  /-- a code object's table -/
  | tbl (ps : Array Value)
  /-- any other thing, by what is true of its one object (a def of one's own: SetO a S n := HO.ext fun h => ..) -/
  | ext (φ : Heap → Prop)

abbrev Hp := Addr → Option HO
def upd (H : Hp) (a : Addr) (o : HO) : Hp := fun b => if b = a then some o else H b
theorem upd_same {H : Hp} {a : Addr} {o : HO} : upd H a o a = some o := by unfold upd; rw [if_pos rfl]
theorem upd_ne {H : Hp} {a b : Addr} {o : HO} (h : b ≠ a) : upd H a o b = H b := by unfold upd; rw [if_neg h]
theorem upd_upd {H : Hp} {a : Addr} {o u : HO} : upd (upd H a o) a u = upd H a u := by
  funext b; unfold upd; split <;> rfl
/-- two objects of different content stand apart -/
theorem ne_of {H : Hp} {a b : Addr} {o u : HO} (h : H a = some o) (h' : H b = some u) (d : o ≠ u) : a ≠ b := by
  intro e; subst e; rw [h] at h'; exact d (Option.some.inj h')
theorem ne_of_none {H : Hp} {a b : Addr} {o : HO} (h : H a = some o) (h' : H b = none) : a ≠ b := by
  intro e; subst e; rw [h] at h'; cases h'

section
variable (P : Program) (w : World)
def ObjOk (H : Hp) (h : Heap) (a : Addr) : HO → Prop
  | .lst xs => xs.length ≤ sizeLine ∧ ∃ (its : List Value) (n : Nat), Vals xs its ∧ h.get? a = some { cls := .type "list", data := .seq its.toArray n }
  | .tup xs => xs.length ≤ sizeLine ∧ ∃ its : List Value, Vals xs its ∧ IsTup h a its.toArray
  | .dK kvs => kvs.length ≤ sizeLine ∧ (a == sysModules) = false ∧ ∃ vs, KV kvs vs ∧ h.DictOf (mixKind P w) a vs
  | .dT kvs => kvs.length ≤ sizeLine ∧ (a == sysModules) = false ∧ ∃ xs : List (List Key × Addr × Value),
      Paired (fun (p : List Key × V) (q : List Key × Addr × Value) => p.1 = q.1 ∧ H q.2.1 = some (.tup (p.1.map kV)) ∧ RelV p.2 q.2.2) kvs xs ∧
      ∃ o es ep, h.get? a = some o ∧ o.ExactDict ∧ o.data = .dict es ep ∧ es.toList = xs.map (entryOfKey (tupleKind (mixKind P w))) ∧ (xs.map (·.1)).Nodup
  | .set S n => h.SetOf (intKind P w) a S n
  | .ins C dx fs => H dx = some (.own a) ∧ fs.length ≤ 1000 ∧ dx ≠ a ∧ h.get? a = some (PySem.W.instObj C dx) ∧
      ∃ mA, h.Ns1 dx mA ∧ (∀ f, RelO (fs.lookup f) (mA f)) ∧ PySem.Within mA (fs.map (·.1))
  | .own _ => ∃ o, h.get? a = some o
  | .xd fs => ∃ mA, h.Ns1 a mA ∧ ∀ f, RelO (fs.lookup f) (mA f)
  | .rng lo hi => ∃ t u v, h.get? a = some { cls := .type "range", data := .fields #[.int lo t, .int hi u, .int 1 v] }
  | .frz o u => h.get? a = some o ∧ ObjOk H h a u
  | .tbl ps => h.get? a = some { cls := .none, data := .fields ps }
  | .met f x => h.get? a = some (PySem.W.methodObj (.ref f) (.ref x))
  | .ext φ => φ h ∧ (∃ o, h.get? a = some o) ∧ ∀ h1 h2 : Heap, φ h1 → (∀ o, h1.get? a = some o → h2.get? a = some o) → φ h2
/-- the abstract heap is held -/
def HOk (H : Hp) (h : Heap) : Prop := ∀ a o, H a = some o → ObjOk P w H h a o
end

section
variable {P : Program} {w : World} {H H' : Hp} {h h' : Heap} {a : Addr} {o : HO}
theorem ObjOk.lt (x : ObjOk P w H h a o) : a < h.objs.size := by
  cases o with
  | lst xs => obtain ⟨_, _, _, _, e⟩ := x; exact Heap.lt_size e
  | tup xs => obtain ⟨_, _, _, p⟩ := x; exact p.lt
  | dK kvs => obtain ⟨_, _, _, _, o, _, _, e, _⟩ := x; exact Heap.lt_size e
  | dT kvs => obtain ⟨_, _, _, _, o, _, _, e, _⟩ := x; exact Heap.lt_size e
  | set S n => obtain ⟨o, _, _, _, e, _⟩ := x; exact Heap.lt_size e
  | ins C dx fs => obtain ⟨_, _, _, e, _⟩ := x; exact Heap.lt_size e
  | own y => obtain ⟨_, e⟩ := x; exact Heap.lt_size e
  | xd fs => obtain ⟨_, ⟨_, _, _, e, _⟩, _⟩ := x; exact Heap.lt_size e
  | rng lo hi => obtain ⟨_, _, _, e⟩ := x; exact Heap.lt_size e
  | frz ob u => obtain ⟨e, _⟩ := x; exact Heap.lt_size e
  | tbl ps => exact Heap.lt_size (show h.get? a = some _ from x)
  | met f y => exact Heap.lt_size (show h.get? a = some _ from x)
  | ext φ => obtain ⟨_, ⟨_, e⟩, _⟩ := x; exact Heap.lt_size e
theorem Paired.mapP {α β : Type} {F G : α → β → Prop} : ∀ {l₁ : List α} {l₂ : List β}, Paired F l₁ l₂ → (∀ a b, F a b → G a b) → Paired G l₁ l₂
  | _, _, .nil, _ => .nil
  | _, _, .cons r t, f => .cons (f _ _ r) (Paired.mapP t f)
/-- what an object's description leans on: its own object, its own dict, the tuples -/
theorem ObjOk.stay (x : ObjOk P w H h a o) (k : ∀ b u, (b = a ∨ H b = some (.own a)) → h.get? b = some u → h'.get? b = some u)
    (ho : ∀ b, H b = some (.own a) → H' b = some (.own a)) (ht : ∀ b xs, H b = some (.tup xs) → H' b = some (.tup xs)) : ObjOk P w H' h' a o := by
  induction o with
  | lst xs => obtain ⟨z, its, n, r, e⟩ := x; exact ⟨z, its, n, r, k _ _ (.inl rfl) e⟩
  | tup xs => obtain ⟨z, its, r, ob, e, c⟩ := x; exact ⟨z, its, r, ob, k _ _ (.inl rfl) e, c⟩
  | dK kvs => obtain ⟨z, y, vs, r, ob, es, ep, e, c⟩ := x; exact ⟨z, y, vs, r, ob, es, ep, k _ _ (.inl rfl) e, c⟩
  | dT kvs =>
    obtain ⟨z, y, xs, r, ob, es, ep, e, c⟩ := x
    exact ⟨z, y, xs, Paired.mapP r fun p q z => ⟨z.1, ht _ _ z.2.1, z.2.2⟩, ob, es, ep, k _ _ (.inl rfl) e, c⟩
  | set S n => obtain ⟨ob, es, ep, t, e, c⟩ := x; exact ⟨ob, es, ep, t, k _ _ (.inl rfl) e, c⟩
  | ins C dx fs =>
    obtain ⟨d, z, ne, e, mA, ⟨od, es, ep, e2, c⟩, r⟩ := x
    exact ⟨ho _ d, z, ne, k _ _ (.inl rfl) e, mA, ⟨od, es, ep, k _ _ (.inr d) e2, c⟩, r⟩
  | own y => obtain ⟨ob, e⟩ := x; exact ⟨ob, k _ _ (.inl rfl) e⟩
  | xd fs => obtain ⟨mA, ⟨od, es, ep, e, c⟩, r⟩ := x; exact ⟨mA, ⟨od, es, ep, k _ _ (.inl rfl) e, c⟩, r⟩
  | rng lo hi => obtain ⟨t, u, v, e⟩ := x; exact ⟨t, u, v, k _ _ (.inl rfl) e⟩
  | frz ob u ih => obtain ⟨e, q⟩ := x; exact ⟨k _ _ (.inl rfl) e, ih q⟩
  | tbl ps =>
    have e : h.get? a = some { cls := .none, data := .fields ps } := x
    show h'.get? a = some { cls := .none, data := .fields ps }
    exact k a _ (.inl rfl) e
  | met f y =>
    have e : h.get? a = some (PySem.W.methodObj (.ref f) (.ref y)) := x
    show h'.get? a = some (PySem.W.methodObj (.ref f) (.ref y))
    exact k a _ (.inl rfl) e
  | ext φ => obtain ⟨p, ⟨o, e⟩, st⟩ := x; exact ⟨st _ _ p fun o q => k _ _ (.inl rfl) q, ⟨o, k _ _ (.inl rfl) e⟩, st⟩
theorem HOk.lt (x : HOk P w H h) (e : H a = some o) : a < h.objs.size := (x a o e).lt
theorem HOk.fresh (x : HOk P w H h) (e : h.objs.size ≤ a) : H a = none := by
  cases q : H a with
  | none => rfl
  | some u => exact absurd (Nat.lt_of_lt_of_le (x.lt q) e) (Nat.lt_irrefl _)
/-- every object of the heap is kept -/
theorem HOk.kept (x : HOk P w H h) (k : ∀ b u, h.get? b = some u → h'.get? b = some u) : HOk P w H h' := fun a o e =>
  (x a o e).stay (fun b u _ q => k b u q) (fun _ q => q) fun _ _ q => q
/-- a new object is laid and tracked -/
theorem HOk.laid (x : HOk P w H h) (k : ∀ b u, h.get? b = some u → h'.get? b = some u) (hp : h.objs.size ≤ a) (new : ObjOk P w (upd H a o) h' a o) : HOk P w (upd H a o) h' := fun b u e => by
  have hn := x.fresh hp
  by_cases hb : b = a
  · subst hb; rw [upd_same] at e; cases e; exact new
  · rw [upd_ne hb] at e
    exact (x b u e).stay (fun c v _ q => k c v q) (fun c q => by rw [upd_ne (ne_of_none q hn)]; exact q) fun c xs q => by rw [upd_ne (ne_of_none q hn)]; exact q
end

/-- what may be read as u: it is u, or a known u -/
def Rd (H : Hp) (a : Addr) (u : HO) : Prop := H a = some u ∨ ∃ o, H a = some (.frz o u)
theorem Rd.ok {P : Program} {w : World} {H : Hp} {h : Heap} {a : Addr} {u : HO} (r : Rd H a u) (x : HOk P w H h) : ObjOk P w H h a u := by
  rcases r with r | ⟨o, r⟩
  · exact x a u r
  · obtain ⟨_, q⟩ := x a _ r
    exact q
/-- what may be written -/
def Mut : Option HO → Prop
  | some (.lst _) => True
  | some (.dK _) => True
  | some (.dT _) => True
  | some (.set _ _) => True
  | some (.ins _ _ _) => True
  | some (.ext _) => True
  | _ => False
section
variable {P : Program} {w : World} {H : Hp} {h h' : Heap} {x e : Addr} {o' : HO}
/-- the object at e is changed: x itself, or the dict of the instance x -/
theorem HOk.write (ok : HOk P w H h) (mu : Mut (H x)) (he : e = x ∨ H e = some (.own x)) (k : ∀ b u, b ≠ e → h.get? b = some u → h'.get? b = some u) (heo : ∃ u, h'.get? e = some u)
    (new : ObjOk P w (upd H x o') h' x o') : HOk P w (upd H x o') h' := fun b u q => by
  have nown : ∀ c y, H c = some (.own y) → c ≠ x := fun c y r z => by subst z; rw [r] at mu; exact mu
  have ntup : ∀ c xs, H c = some (.tup xs) → c ≠ x := fun c xs r z => by subst z; rw [r] at mu; exact mu
  by_cases hb : b = x
  · subst hb; rw [upd_same] at q; cases q; exact new
  · rw [upd_ne hb] at q
    by_cases hbe : b = e
    · have q' : H b = some (.own x) := by
        rcases he with z | z
        · exact absurd (hbe.trans z) hb
        · rw [hbe]; exact z
      rw [q] at q'; cases q'
      obtain ⟨v, hv⟩ := heo
      exact ⟨v, by rw [hbe]; exact hv⟩
    · refine (ok b u q).stay (fun c v hc r => k c v ?_ r) (fun c r => by rw [upd_ne (nown c b r)]; exact r) fun c xs r => by rw [upd_ne (ntup c xs r)]; exact r
      rcases hc with rfl | hc
      · exact hbe
      · rintro rfl
        rcases he with z | z
        · exact nown c b hc z
        · rw [hc] at z; cases z; exact hb rfl
end

/-! ### kept unless tracked; of the frames at fs (the callers') the slots may change (an exception that passes writes there); of the records at ex (iterators) nothing is said -/
structure Un (fs ex : List Addr) (H H' : Hp) (h h' : Heap) : Prop where
  keep : ∀ b o, h.get? b = some o → H b = none → b ∉ fs → b ∉ ex → h'.get? b = some o
  slot : ∀ b o, h.get? b = some o → H b = none → b ∈ fs → b ∉ ex → ∃ sl, h'.get? b = some { o with slots := sl }
  free : ∀ b o, h.get? b = some o → H b = none → b ∉ ex → H' b = none
  there : ∀ b o, h.get? b = some o → b ∉ ex → ∃ o', h'.get? b = some o'
  tups : ∀ b xs, H b = some (.tup xs) → H' b = some (.tup xs)
  frzs : ∀ b o u, H b = some (.frz o u) → H' b = some (.frz o u)
  tbls : ∀ b ps, H b = some (.tbl ps) → ∃ more, H' b = some (.tbl (ps ++ more))
section
variable {fs fs' ex ex' : List Addr} {H H1 H2 : Hp} {h h1 h2 h' : Heap} {a x e : Addr} {o : HO}
theorem Un.any (u : Un fs ex H H1 h h1) {b : Addr} {ob : Obj} (q : h.get? b = some ob) (n : H b = none) (hx : b ∉ ex) : ∃ sl, h1.get? b = some { ob with slots := sl } := by
  by_cases hb : b ∈ fs
  · exact u.slot b ob q n hb hx
  · exact ⟨ob.slots, u.keep b ob q n hb hx⟩
theorem Un.kept (k : ∀ b u, h.get? b = some u → h'.get? b = some u) : Un fs ex H H h h' :=
  ⟨fun b ob q _ _ _ => k b ob q, fun b ob q _ _ _ => ⟨ob.slots, k b ob q⟩, fun _ _ _ n _ => n, fun b ob q _ => ⟨ob, k b ob q⟩, fun _ _ q => q, fun _ _ _ q => q, fun _ ps q => ⟨#[], by rw [q]; simp⟩⟩
theorem Un.refl : Un fs ex H H h h := Un.kept fun _ _ q => q
theorem Un.laid (k : ∀ b u, h.get? b = some u → h'.get? b = some u) (hp : h.objs.size ≤ a) (hn : H a = none) : Un fs ex H (upd H a o) h h' where
  keep := fun b u q _ _ _ => k b u q
  slot := fun b u q _ _ _ => ⟨u.slots, k b u q⟩
  free := fun b u q n _ => by rw [upd_ne (Nat.ne_of_lt (Nat.lt_of_lt_of_le (Heap.lt_size q) hp))]; exact n
  there := fun b u q _ => ⟨u, k b u q⟩
  tups := fun b xs q => by rw [upd_ne (ne_of_none q hn)]; exact q
  frzs := fun b u xs q => by rw [upd_ne (ne_of_none q hn)]; exact q
  tbls := fun b ps q => ⟨#[], by rw [upd_ne (ne_of_none q hn), q]; simp⟩
theorem Un.write (mu : Mut (H x)) (he : e = x ∨ H e = some (.own x)) (k : ∀ b u, b ≠ e → h.get? b = some u → h'.get? b = some u) (heo : ∃ u, h'.get? e = some u) : Un fs ex H (upd H x o) h h' := by
  have hx : ∀ b, H b = none → b ≠ x := fun b n z => by subst z; rw [n] at mu; exact mu
  have hb : ∀ b, H b = none → b ≠ e := fun b n z => by
    subst z
    rcases he with r | r
    · exact hx b n r
    · rw [n] at r; cases r
  have hm : ∀ b u, H b = some u → ¬ Mut (some u) → b ≠ x := fun b u q nm z => by subst z; rw [q] at mu; exact nm mu
  refine ⟨fun b u q n _ _ => k b u (hb b n) q, fun b u q n _ _ => ⟨u.slots, k b u (hb b n) q⟩, fun b u q n _ => by rw [upd_ne (hx b n)]; exact n, fun b u q _ => ?_,
    fun b xs q => by rw [upd_ne (hm b _ q fun z => z)]; exact q, fun b u xs q => by rw [upd_ne (hm b _ q fun z => z)]; exact q, fun b ps q => ⟨#[], by rw [upd_ne (hm b _ q fun z => z), q]; simp⟩⟩
  by_cases hbe : b = e
  · subst hbe; exact heo
  · exact ⟨u, k b u hbe q⟩
end

/-! ### the heap without what is tracked -/
def trk (h : Heap) (H : Hp) : List Addr := (List.range h.objs.size).filter fun a => (H a).isSome
def hidT (h : Heap) (H : Hp) : Heap := PySem.W.hideAll h (trk h H)
theorem hidT_size (h : Heap) (H : Hp) : (hidT h H).objs.size = h.objs.size := PySem.W.hideAll_size _ _
theorem hidT_get {h : Heap} {H : Hp} {b : Addr} {o : Obj} (e : h.get? b = some o) (n : H b = none) : (hidT h H).get? b = some o :=
  PySem.W.hideAll_get _ e fun hm => by
    have q : (H b).isSome = true := (List.mem_filter.mp hm).2
    rw [n] at q; simp at q
theorem of_hidT {h : Heap} {H : Hp} {b : Addr} {o : Obj} (e : (hidT h H).get? b = some o) : h.get? b = some o ∧ H b = none := by
  have e' : h.get? b = some o := PySem.W.of_hideAll (trk h H) e
  refine ⟨e', ?_⟩
  cases q : H b with
  | none => rfl
  | some x =>
    have hm : b ∈ trk h H := List.mem_filter.mpr ⟨List.mem_range.mpr (Heap.lt_size e'), by simp [q]⟩
    have z : (hidT h H).get? b = none := PySem.W.hideAll_none (trk h H) hm
    rw [z] at e; cases e

/-! ### OpenK's ledger, filled with every new object but one -/
end L2

namespace L2
open PySem PySem.Spec PyProof.Rows

/-- the module's facts, over the base: the heap at the law's entry without what is tracked there -/
structure Mod (K : PySem.W.Frag) (mg : Str → Option Value) (base : Heap) : Prop where
  kin : K.In base
  glob : base.Ns mainGlobals mg
  blt : ∃ mb, base.Ns builtinsNs mb ∧ ∀ x : Str, x ≠ "__name__" → mb x = bootBuiltins x
  nolimit : base.NoLimit

/-- the context: a def's body (or a comprehension's block) running. base: fixed through the whole law; s₀, H₀: the entry; outer: the frames whose slots others may change (a def's callers); stack: all frames that run;
   ex: iterators that were made ahead of the entry and are walked here (a comprehension's); fn: the names whose cells were made at the entry (a def: all; a comprehension's block: its own); calm: not within an except suite; pn: pins that every state bears; xe: what is wanted of an exception that leaves the code -/
structure Cx where
  prog : Program
  w : World
  K : PySem.W.Frag
  mg : Str → Option Value
  base : Heap
  A : Around
  N : List Str
  s₀ : Shared
  H₀ : Hp
  env : Env
  outer : List Env
  stack : List Env
  ex : List Addr
  fn : Str → Bool
  calm : Bool
  pn : List (Addr × Obj)
  xe : Value → Shared → Prop
/-- the callers' frames -/
def frs (l : List Env) : List Addr := l.filterMap (·.frame)
abbrev Cx.fs (X : Cx) : List Addr := frs X.outer

def Vis (sc : Scope) (x : Str) : Prop := sc.names.lookup x = some .local ∨ sc.names.lookup x = some .cell ∨ sc.names.lookup x = some .free
def Loc (sc : Scope) (x : Str) : Prop := sc.names.lookup x = some .local ∨ sc.names.lookup x = some .cell
def Look (env : Env) (h : Heap) (m : Str → Option Value) (x : Str) (u : Value) : Prop :=
  (env.kindOf x = some .local ∧ m x = some u) ∨ ((env.kindOf x = some .cell ∨ env.kindOf x = some .free) ∧ ∃ c, env.cells.lookup x = some c ∧ h.IsCell c (some u))

structure Cx.Ok (X : Cx) : Prop where
  mod : Mod X.K X.mg X.base
  kind : X.env.scope.kind = .function
  glob : X.env.globals = mainGlobals
  blt : X.env.builtins = builtinsNs
  above : X.s₀.heap.objs.size ≤ X.env.locals
  inj : ∀ x y c, X.env.cells.lookup x = some c → X.env.cells.lookup y = some c → x = y
  has : ∀ x, (X.env.kindOf x = some .cell ∨ X.env.kindOf x = some .free) → ∃ c, X.env.cells.lookup x = some c
  cab : ∀ x c, X.fn x = true → X.env.cells.lookup x = some c → X.s₀.heap.objs.size ≤ c
  hd : X.calm = true → X.A.handled = none
  frames : X.A.frames = some X.stack
  stk : X.stack = X.outer ∨ (X.stack = X.env :: X.outer ∧ X.env.frame = some X.env.locals)
  exf : ∀ b ∈ X.ex, b ≠ X.env.locals ∧ ∀ x c, X.env.cells.lookup x = some c → c ≠ b
  bs : ∀ b o, X.base.get? b = some o → X.s₀.heap.get? b = some o ∧ X.H₀ b = none
  bsz : X.base.objs.size ≤ X.s₀.heap.objs.size
  noex : ∀ b o, X.base.get? b = some o → b ∉ X.ex
  exfs : ∀ b ∈ X.ex, b ∉ X.fs
  funs : X.s₀.heap.FunFrames X.base X.outer
  frf : ∀ b ∈ X.fs, X.H₀ b = none

structure Inv (X : Cx) (pins : List (Addr × Obj)) (σ : List (Option V)) (H : Hp) (s : Shared) : Prop where
  ok : X.Ok
  os : s.os = X.s₀.os
  bare : AllBare s.gens
  base : Un X.fs X.ex X.H₀ H X.s₀.heap s.heap
  loc : ∃ m, s.heap.Ns X.env.locals m ∧ ∀ (i : Nat) (x : Str) (v : V), X.N[i]? = some x → σ[i]? = some (some v) → Vis X.env.scope x → ∃ u, RelV v u ∧ Look X.env s.heap m x u
  cell : ∀ x c, X.env.cells.lookup x = some c → ∃ v, s.heap.IsCell c v
  free : H X.env.locals = none
  freeC : ∀ x c, X.env.cells.lookup x = some c → H c = none
  pin : ∀ p ∈ X.pn ++ pins, s.heap.get? p.1 = some p.2 ∧ H p.1 = none ∧ p.1 ≠ X.env.locals ∧ p.1 ∉ X.fs ∧ ∀ v, p.2.data ≠ .cell v
  hok : HOk X.prog X.w H s.heap
  len : σ.length = X.N.length

section
variable {X : Cx} {pins : List (Addr × Obj)} {σ : List (Option V)} {H H' : Hp} {s : Shared} {h' : Heap}

theorem Cx.Ok.nofr (ok : X.Ok) {b : Addr} {o : Obj} (e : X.base.get? b = some o) : b ∉ X.fs := fun hb => by
  have := (ok.funs.mem hb).1
  rw [e] at this; cases this
theorem Inv.bs (I : Inv X pins σ H s) : ∀ b o, X.base.get? b = some o → s.heap.get? b = some o ∧ H b = none := fun b o e =>
  ⟨I.base.keep b o (I.ok.bs b o e).1 (I.ok.bs b o e).2 (I.ok.nofr e) (I.ok.noex b o e), I.base.free b o (I.ok.bs b o e).1 (I.ok.bs b o e).2 (I.ok.noex b o e)⟩
theorem Inv.bk (I : Inv X pins σ H s) : ∀ b o, X.base.get? b = some o → s.heap.get? b = some o := fun b o e => (I.bs b o e).1
theorem Inv.mod (I : Inv X pins σ H s) : Mod X.K X.mg X.base := I.ok.mod
theorem Inv.kIn (I : Inv X pins σ H s) : X.K.In s.heap := I.ok.mod.kin.keeps I.bk
theorem Inv.lt (I : Inv X pins σ H s) : X.env.locals < s.heap.objs.size := let ⟨_, hn, _⟩ := I.loc; hn.lt
theorem Inv.sz (I : Inv X pins σ H s) : X.s₀.heap.objs.size ≤ s.heap.objs.size := Nat.le_trans I.ok.above (Nat.le_of_lt I.lt)
theorem Inv.nofs (I : Inv X pins σ H s) {a : Addr} (h : s.heap.objs.size ≤ a) : a ∉ X.fs := fun hb => by
  obtain ⟨_, o, ho, _⟩ := I.ok.funs.mem hb
  exact absurd (Nat.lt_of_lt_of_le (Heap.lt_size ho) (Nat.le_trans I.sz h)) (Nat.lt_irrefl _)
theorem Inv.cne (I : Inv X pins σ H s) : ∀ x c, X.env.cells.lookup x = some c → c ≠ X.env.locals := fun x c e z => by
  obtain ⟨v, o, ho, hd⟩ := I.cell x c e
  obtain ⟨m, ⟨o', es, ep, ho', hd', _⟩, _⟩ := I.loc
  rw [z, ho'] at ho; cases ho; rw [hd'] at hd; cases hd
theorem Inv.funs (I : Inv X pins σ H s) : s.heap.FunFrames X.base X.outer := by
  have all : ∀ (l : List Env), (∀ b ∈ frs l, b ∈ X.fs) → X.s₀.heap.FunFrames X.base l → s.heap.FunFrames X.base l := by
    intro l
    induction l with
    | nil => intro _ _; trivial
    | cons env r ih =>
      intro hs hl
      obtain ⟨hk, ⟨L, o, hf, hn, ho, hd⟩, hr⟩ := hl
      have hL : L ∈ X.fs := hs L (by unfold frs; rw [List.filterMap_cons, hf]; exact List.mem_cons_self)
      obtain ⟨sl, e⟩ := I.base.slot L o ho (I.ok.frf L hL) hL fun z => I.ok.exfs L z hL
      exact ⟨hk, ⟨L, _, hf, hn, e, hd⟩, ih (fun b hb => hs b (by unfold frs; rw [List.filterMap_cons, hf]; exact List.mem_cons_of_mem _ hb)) hr⟩
  exact all X.outer (fun _ hb => hb) I.ok.funs

/-- the frames that run, for a call -/
theorem Inv.stack (I : Inv X pins σ H s) : s.heap.FunFrames X.base X.stack := by
  rcases I.ok.stk with e | ⟨e, hf⟩
  · rw [e]; exact I.funs
  · rw [e]
    obtain ⟨m, hn, _⟩ := I.loc
    refine .cons (by rw [I.ok.kind]; decide) hf hn ?_ I.funs
    exact Heap.get?_none_of_le (Nat.le_trans I.ok.bsz I.ok.above)
theorem Inv.stkSub (I : Inv X pins σ H s) : ∀ b ∈ frs X.stack, b ∈ X.env.locals :: X.fs := fun b hb => by
  rcases I.ok.stk with e | ⟨e, hf⟩
  · rw [e] at hb; exact List.mem_cons_of_mem _ hb
  · rw [e] at hb
    unfold frs at hb
    rw [List.filterMap_cons, hf] at hb
    exact hb
theorem Inv.stkFree (I : Inv X pins σ H s) : ∀ b ∈ frs X.stack, H b = none := fun b hb => by
  rcases List.mem_cons.mp (I.stkSub b hb) with e | hb
  · rw [e]; exact I.free
  · obtain ⟨_, o, ho, _⟩ := I.ok.funs.mem hb
    exact I.base.free b o ho (I.ok.frf b hb) fun z => I.ok.exfs b z hb

/-- THE STEP: the untracked objects but the frame and the records at ch are kept (the callers' frames up to slots), the frame's map is kept, the new abstract heap is held -/
theorem Inv.step {g' : Array GenState} {t' : Nat} {d' : Drawn} {ch : List Addr} (I : Inv X pins σ H s)
    (hch : ∀ b ∈ ch, (b ∈ X.ex ∨ X.s₀.heap.objs.size ≤ b) ∧ b ≠ X.env.locals ∧ (∀ x c, X.env.cells.lookup x = some c → c ≠ b) ∧ ∀ p ∈ X.pn ++ pins, p.1 ≠ b)
    (keep : ∀ b o, b ≠ X.env.locals → b ∉ X.fs → b ∉ ch → s.heap.get? b = some o → H b = none → h'.get? b = some o)
    (slot : ∀ b o, b ≠ X.env.locals → b ∈ X.fs → b ∉ ch → s.heap.get? b = some o → H b = none → ∃ sl, h'.get? b = some { o with slots := sl }) (free : ∀ b o, b ∉ ch → s.heap.get? b = some o → H b = none → H' b = none)
    (there : ∀ b o, b ∉ ch → s.heap.get? b = some o → ∃ o', h'.get? b = some o')
    (tups : ∀ b xs, H b = some (.tup xs) → H' b = some (.tup xs)) (frzs : ∀ b o u, H b = some (.frz o u) → H' b = some (.frz o u)) (tbls : ∀ b ps, H b = some (.tbl ps) → ∃ more, H' b = some (.tbl (ps ++ more)))
    (ns : ∀ m, s.heap.Ns X.env.locals m → h'.Ns X.env.locals m) (hok : HOk X.prog X.w H' h') (hg : AllBare g') :
    Inv X pins σ H' { s with heap := h', gens := g', drawn := d', toks := t' } := by
  have neL : ∀ b o, X.s₀.heap.get? b = some o → b ≠ X.env.locals := fun b o e => Nat.ne_of_lt (Nat.lt_of_lt_of_le (Heap.lt_size e) I.ok.above)
  have neC : ∀ b o, X.s₀.heap.get? b = some o → b ∉ X.ex → b ∉ ch := fun b o e hx hb => by
    rcases (hch b hb).1 with z | z
    · exact hx z
    · exact absurd (Nat.lt_of_lt_of_le (Heap.lt_size e) z) (Nat.lt_irrefl _)
  have cellK : ∀ x c, X.env.cells.lookup x = some c → ∀ v, s.heap.IsCell c v → h'.IsCell c v := fun x c e v ⟨o, ho, hd⟩ => by
    have nch : c ∉ ch := fun z => (hch c z).2.2.1 x c e rfl
    by_cases hc : c ∈ X.fs
    · obtain ⟨sl, q⟩ := slot c o (I.cne x c e) hc nch ho (I.freeC x c e)
      exact ⟨_, q, hd⟩
    · exact ⟨o, keep c o (I.cne x c e) hc nch ho (I.freeC x c e), hd⟩
  refine ⟨I.ok, I.os, hg, ⟨fun b o e n hb hx => ?_, fun b o e n hb hx => ?_, fun b o e n hx => ?_, fun b o e hx => ?_, fun b xs e => tups b xs (I.base.tups b xs e), fun b o xs e => frzs b o xs (I.base.frzs b o xs e), fun b ps e => ?_⟩, ?_, fun x c e => ?_, ?_, fun x c e => ?_, fun p hp => ?_, hok, I.len⟩
  · exact keep b o (neL b o e) hb (neC b o e hx) (I.base.keep b o e n hb hx) (I.base.free b o e n hx)
  · obtain ⟨sl, e1⟩ := I.base.slot b o e n hb hx
    obtain ⟨sl', e2⟩ := slot b _ (neL b o e) hb (neC b o e hx) e1 (I.base.free b o e n hx)
    exact ⟨sl', e2⟩
  · obtain ⟨o', e1⟩ := I.base.there b o e hx
    exact free b o' (neC b o e hx) e1 (I.base.free b o e n hx)
  · obtain ⟨o', e1⟩ := I.base.there b o e hx
    exact there b o' (neC b o e hx) e1
  · obtain ⟨m1, e1⟩ := I.base.tbls b ps e
    obtain ⟨m2, e2⟩ := tbls b _ e1
    exact ⟨m1 ++ m2, by rw [e2, Array.append_assoc]⟩
  · obtain ⟨m, hn, hl⟩ := I.loc
    refine ⟨m, ns m hn, fun i x v e1 e2 e3 => ?_⟩
    obtain ⟨u, r, l⟩ := hl i x v e1 e2 e3
    refine ⟨u, r, ?_⟩
    rcases l with l | ⟨k, c, e, z⟩
    · exact .inl l
    · exact .inr ⟨k, c, e, cellK x c e _ z⟩
  · obtain ⟨v, z⟩ := I.cell x c e
    exact ⟨v, cellK x c e v z⟩
  · obtain ⟨m, ⟨o, _, _, ho, _⟩, _⟩ := I.loc
    exact free _ o (fun z => (hch _ z).2.1 rfl) ho I.free
  · obtain ⟨v, o, ho, hd⟩ := I.cell x c e
    exact free c o (fun z => (hch c z).2.2.1 x c e rfl) ho (I.freeC x c e)
  · obtain ⟨e, n, ne, nf, d⟩ := I.pin p hp
    have nch : p.1 ∉ ch := fun z => (hch p.1 z).2.2.2 p hp rfl
    exact ⟨keep p.1 p.2 ne nf nch e n, free p.1 p.2 nch e n, ne, nf, d⟩
/-- .. where the frame's own object is kept too -/
theorem Inv.un {t' : Nat} (I : Inv X pins σ H s) (u : Un X.fs [] H H' s.heap h') (hok : HOk X.prog X.w H' h') : Inv X pins σ H' { s with heap := h', toks := t' } := by
  obtain ⟨m, ⟨o, es, ep, ho, r⟩, _⟩ := id I.loc
  obtain ⟨sl, hL⟩ := u.any ho I.free (by simp)
  exact I.step (g' := s.gens) (d' := s.drawn) (ch := []) (fun _ z => nomatch z) (fun b o _ hb _ e n => u.keep b o e n hb (by simp)) (fun b o _ hb _ e n => u.slot b o e n hb (by simp)) (fun b o _ e n => u.free b o e n (by simp)) (fun b o _ e => u.there b o e (by simp)) u.tups u.frzs u.tbls (fun m' hm => by
    obtain ⟨o', es', ep', ho', r'⟩ := hm
    rw [ho] at ho'; cases ho'
    exact ⟨_, es', ep', hL, r'⟩) hok I.bare
/-- behind a call (or a comprehension's block): the slots of this frame may have changed too, the records at ch may have turned -/
theorem Inv.call {g' : Array GenState} {t' : Nat} {d' : Drawn} {ch : List Addr} (I : Inv X pins σ H s) (u : Un (frs X.stack) ch H H' s.heap h') (hok : HOk X.prog X.w H' h') (hg : AllBare g')
    (hch : ∀ b ∈ ch, (b ∈ X.ex ∨ X.s₀.heap.objs.size ≤ b) ∧ b ≠ X.env.locals ∧ (∀ x c, X.env.cells.lookup x = some c → c ≠ b) ∧ ∀ p ∈ X.pn ++ pins, p.1 ≠ b) :
    Inv X pins σ H' { s with heap := h', gens := g', drawn := d', toks := t' } := by
  obtain ⟨m, ⟨o, es, ep, ho, r⟩, _⟩ := id I.loc
  obtain ⟨sl, hL⟩ := u.any ho I.free fun z => (hch _ z).2.1 rfl
  exact I.step (ch := ch) hch (fun b o hL hb hc e n => u.keep b o e n (fun z => (List.mem_cons.mp (I.stkSub b z)).elim hL hb) hc) (fun b o _ _ hc e n => u.any e n hc) (fun b o hc e n => u.free b o e n hc) (fun b o hc e => u.there b o e hc) u.tups u.frzs u.tbls (fun m' hm => by
    obtain ⟨o', es', ep', ho', r'⟩ := hm
    rw [ho] at ho'; cases ho'
    exact ⟨_, es', ep', hL, r'⟩) hok hg
/-- an untracked record of ours (an iterator) has turned -/
theorem Inv.turned {t' : Nat} {it : Addr} (I : Inv X pins σ H s) (k : ∀ b o, b ≠ it → s.heap.get? b = some o → h'.get? b = some o) (hn : H it = none) (hL : it ≠ X.env.locals)
    (h1 : it ∈ X.ex ∨ X.s₀.heap.objs.size ≤ it) (h2 : ∀ x c, X.env.cells.lookup x = some c → c ≠ it) (h3 : ∀ p ∈ X.pn ++ pins, p.1 ≠ it) : Inv X pins σ H { s with heap := h', toks := t' } := by
  have nit : ∀ b u, H b = some u → b ≠ it := fun b u e z => by rw [z, hn] at e; cases e
  refine I.step (g' := s.gens) (d' := s.drawn) (ch := [it]) (fun b hb => ?_) (fun b o _ _ hc e _ => k b o (fun z => hc (by simp [z])) e) (fun b o _ _ hc e _ => ⟨o.slots, k b o (fun z => hc (by simp [z])) e⟩) (fun _ _ _ _ n => n)
    (fun b o hc e => ⟨o, k b o (fun z => hc (by simp [z])) e⟩) (fun _ _ e => e) (fun _ _ _ e => e) (fun b ps e => ⟨#[], by rw [e]; simp⟩) (fun m hm => ?_) (fun b u e => ?_) I.bare
  · have e : b = it := by simpa using hb
    subst e
    exact ⟨h1, hL, h2, h3⟩
  · obtain ⟨o, es, ep, ho, r⟩ := hm
    exact ⟨o, es, ep, k _ o (Ne.symm hL) ho, r⟩
  · refine (I.hok b u e).stay (fun c v hc q => k c v ?_ q) (fun _ q => q) fun _ _ q => q
    rcases hc with z | z
    · rw [z]; exact nit b u e
    · exact nit c _ z
theorem Inv.tok (I : Inv X pins σ H s) (t : Nat) : Inv X pins σ H { s with toks := t } := I.un (h' := s.heap) (t' := t) Un.refl I.hok
/-- all objects kept -/
theorem Inv.kept {t' : Nat} (I : Inv X pins σ H s) (k : ∀ b u, s.heap.get? b = some u → h'.get? b = some u) : Inv X pins σ H { s with heap := h', toks := t' } := I.un (Un.kept k) (I.hok.kept k)
/-- a new object laid and tracked -/
theorem Inv.laid {a : Addr} {o : HO} {t' : Nat} (I : Inv X pins σ H s) (k : ∀ b u, s.heap.get? b = some u → h'.get? b = some u) (hp : s.heap.objs.size ≤ a) (new : ObjOk X.prog X.w (upd H a o) h' a o) :
    Inv X pins σ (upd H a o) { s with heap := h', toks := t' } := I.un (Un.laid k hp (I.hok.fresh hp)) (I.hok.laid k hp new)
/-- an object written -/
theorem Inv.write {x e : Addr} {o : HO} {t' : Nat} (I : Inv X pins σ H s) (mu : Mut (H x)) (he : e = x ∨ H e = some (.own x)) (k : ∀ b u, b ≠ e → s.heap.get? b = some u → h'.get? b = some u) (heo : ∃ u, h'.get? e = some u)
    (new : ObjOk X.prog X.w (upd H x o) h' x o) : Inv X pins σ (upd H x o) { s with heap := h', toks := t' } := I.un (Un.write mu he k heo) (I.hok.write mu he k heo new)
/-- forgetting slots, pins -/
theorem Inv.weak {σ' : List (Option V)} (I : Inv X pins σ H s) (hl : σ'.length = σ.length) (w : ∀ (i : Nat) v, σ'[i]? = some (some v) → σ[i]? = some (some v)) : Inv X pins σ' H s :=
  ⟨I.ok, I.os, I.bare, I.base, let ⟨m, hn, hl'⟩ := I.loc; ⟨m, hn, fun i x v e1 e2 e3 => hl' i x v e1 (w i v e2) e3⟩, I.cell, I.free, I.freeC, I.pin, I.hok, hl.trans I.len⟩
theorem Inv.pins_of {pins' : List (Addr × Obj)} (I : Inv X pins σ H s) (h : ∀ p ∈ pins', s.heap.get? p.1 = some p.2 ∧ H p.1 = none ∧ p.1 ≠ X.env.locals ∧ p.1 ∉ X.fs ∧ ∀ v, p.2.data ≠ .cell v) : Inv X pins' σ H s :=
  ⟨I.ok, I.os, I.bare, I.base, I.loc, I.cell, I.free, I.freeC, fun p hp => (List.mem_append.mp hp).elim (fun z => I.pin p (List.mem_append_left _ z)) (h p), I.hok, I.len⟩

theorem nodup_ix {N : List Str} (hN : N.Nodup) {i j : Nat} {x : Str} (a : N[i]? = some x) (b : N[j]? = some x) : i = j := by
  obtain ⟨h1, e1⟩ := List.getElem?_eq_some_iff.mp a
  obtain ⟨h2, e2⟩ := List.getElem?_eq_some_iff.mp b
  exact (List.getElem_inj hN).mp (e1.trans e2.symm)

/-- a name is stored; what changed -/
theorem store_ok2 {M : Model} {A : Around} {E : Value → Shared → Prop} {i : Nat} {x : Str} {v : V} {u : Value} {Q : Unit → Shared → Prop} (I : Inv X pins σ H s) (hN : X.N.Nodup) (hi : X.N[i]? = some x) (hx : Loc X.env.scope x) (r : RelV v u)
    (h : ∀ s', Inv X pins (σ.set i (some v)) H s' → (∃ a, Heap.SameBut a s.heap s'.heap ∧ (a = X.env.locals ∨ X.env.cells.lookup x = some a)) → Q () s') (hf : X.fn x = true ∨ X.env.scope.names.lookup x = some .local := by first | exact .inl rfl | exact .inr rfl | assumption) : wpAny M A (storeName X.env x u) Q E s := by
  obtain ⟨m, hn, hl⟩ := id I.loc
  have hcls : (X.env.scope.kind == .class || (X.env.scope.kind == .module && X.env.locals != X.env.globals)) = false := by rw [I.ok.kind]; rfl
  have hiσ : i < σ.length := by rw [I.len]; exact (List.getElem?_eq_some_iff.mp hi).1
  have cne := I.cne
  have tracked : ∀ {a : Addr} {h' : Heap}, (∃ o, s.heap.get? a = some o ∧ H a = none) → Heap.SameBut a s.heap h' → HOk X.prog X.w H h' := fun {a h'} ha hs b ob e => by
    obtain ⟨_, _, hfree⟩ := ha
    refine (I.hok b ob e).stay (fun c w' hc q => (hs.2 c ?_).trans q) (fun _ q => q) fun _ _ q => q
    rintro rfl
    rcases hc with rfl | hc
    · rw [hfree] at e; cases e
    · rw [hfree] at hc; cases hc
  rcases hx with hk | hk
  · refine wpAny_storeName_local hk hn (fun h' hn' hs => ?_) hcls
    obtain ⟨oL, _, _, hoL, _⟩ := id hn
    refine h _ ⟨I.ok, I.os, I.bare, ⟨fun b o e n hb hx => ?_, fun b o e n hb hx => ?_, I.base.free, fun b o e hx => ?_, I.base.tups, I.base.frzs, I.base.tbls⟩, ⟨_, hn', fun j y v' e1 e2 e3 => ?_⟩, fun y c e => ?_, I.free, I.freeC, fun p hp => ?_, tracked ⟨oL, hoL, I.free⟩ hs, by simpa using I.len⟩ ⟨_, hs, .inl rfl⟩
    · exact (hs.2 b (Nat.ne_of_lt (Nat.lt_of_lt_of_le (Heap.lt_size e) I.ok.above))).trans (I.base.keep b o e n hb hx)
    · obtain ⟨sl, e1⟩ := I.base.slot b o e n hb hx
      exact ⟨sl, (hs.2 b (Nat.ne_of_lt (Nat.lt_of_lt_of_le (Heap.lt_size e) I.ok.above))).trans e1⟩
    · obtain ⟨o', e1⟩ := I.base.there b o e hx
      exact ⟨o', (hs.2 b (Nat.ne_of_lt (Nat.lt_of_lt_of_le (Heap.lt_size e) I.ok.above))).trans e1⟩
    · by_cases hj : j = i
      · subst hj
        rw [hi] at e1; cases e1
        rw [List.getElem?_set_self hiσ] at e2
        cases e2
        exact ⟨u, r, .inl ⟨hk, by simp⟩⟩
      · rw [List.getElem?_set_ne (Ne.symm hj)] at e2
        obtain ⟨u', r', q⟩ := hl j y v' e1 e2 e3
        refine ⟨u', r', ?_⟩
        rcases q with ⟨k, e⟩ | ⟨k, c, e, z⟩
        · refine .inl ⟨k, ?_⟩
          have : y ≠ x := fun e => hj (nodup_ix hN e1 (e ▸ hi))
          simp [this, e]
        · exact .inr ⟨k, c, e, z.sameBut hs (cne y c e)⟩
    · obtain ⟨w', z⟩ := I.cell y c e
      exact ⟨w', z.sameBut hs (cne y c e)⟩
    · obtain ⟨e, n, ne, nf, d⟩ := I.pin p hp
      exact ⟨(hs.2 p.1 ne).trans e, n, ne, nf, d⟩
  · have hfn : X.fn x = true := by
      rcases hf with z | z
      · exact z
      · rw [z] at hk; cases hk
    obtain ⟨c, hc⟩ := I.ok.has x (.inl hk)
    obtain ⟨w', z⟩ := I.cell x c hc
    refine wpAny_storeName_cell I.ok.kind hk hc z (fun h' hc' hs => ?_)
    obtain ⟨oc, hoc, hocd⟩ := id z
    refine h { s with heap := h' } ⟨I.ok, I.os, I.bare, ⟨fun b o e n hb hx => ?_, fun b o e n hb hx => ?_, I.base.free, fun b o e hx => ?_, I.base.tups, I.base.frzs, I.base.tbls⟩, ⟨m, hn.sameBut hs (Ne.symm (cne x c hc)), fun j y v' e1 e2 e3 => ?_⟩, fun y c' e => ?_, I.free, I.freeC, fun p hp => ?_, tracked ⟨oc, hoc, I.freeC x c hc⟩ hs, by simpa using I.len⟩ ⟨c, hs, .inr hc⟩
    · exact (hs.2 b (Nat.ne_of_lt (Nat.lt_of_lt_of_le (Heap.lt_size e) (I.ok.cab x c hfn hc)))).trans (I.base.keep b o e n hb hx)
    · obtain ⟨sl, e1⟩ := I.base.slot b o e n hb hx
      exact ⟨sl, (hs.2 b (Nat.ne_of_lt (Nat.lt_of_lt_of_le (Heap.lt_size e) (I.ok.cab x c hfn hc)))).trans e1⟩
    · obtain ⟨o', e1⟩ := I.base.there b o e hx
      exact ⟨o', (hs.2 b (Nat.ne_of_lt (Nat.lt_of_lt_of_le (Heap.lt_size e) (I.ok.cab x c hfn hc)))).trans e1⟩
    · by_cases hj : j = i
      · subst hj
        rw [hi] at e1; cases e1
        rw [List.getElem?_set_self hiσ] at e2
        cases e2
        exact ⟨u, r, .inr ⟨.inl hk, c, hc, hc'⟩⟩
      · rw [List.getElem?_set_ne (Ne.symm hj)] at e2
        obtain ⟨u', r', q⟩ := hl j y v' e1 e2 e3
        refine ⟨u', r', ?_⟩
        rcases q with q | ⟨k, c', e, z'⟩
        · exact .inl q
        · refine .inr ⟨k, c', e, z'.sameBut hs ?_⟩
          rintro rfl
          exact hj (nodup_ix hN e1 (I.ok.inj _ _ _ e hc ▸ hi))
    · by_cases hcc : c' = c
      · subst hcc; exact ⟨_, hc'⟩
      · obtain ⟨w2, z2⟩ := I.cell y c' e
        exact ⟨w2, z2.sameBut hs hcc⟩
    · obtain ⟨e, n, ne, nf, d⟩ := I.pin p hp
      refine ⟨(hs.2 p.1 ?_).trans e, n, ne, nf, d⟩
      intro q
      rw [q, hoc] at e
      have q' : oc = p.2 := Option.some.inj e
      exact d w' (by rw [← q']; exact hocd)
theorem store_ok {M : Model} {A : Around} {E : Value → Shared → Prop} {i : Nat} {x : Str} {v : V} {u : Value} {Q : Unit → Shared → Prop} (I : Inv X pins σ H s) (hN : X.N.Nodup) (hi : X.N[i]? = some x) (hx : Loc X.env.scope x) (r : RelV v u)
    (h : ∀ s', Inv X pins (σ.set i (some v)) H s' → Q () s') (hf : X.fn x = true ∨ X.env.scope.names.lookup x = some .local := by first | exact .inl rfl | exact .inr rfl | assumption) : wpAny M A (storeName X.env x u) Q E s :=
  store_ok2 I hN hi hx r (fun s' I' _ => h s' I') hf
/-- behind a call or a block, the state as it is -/
theorem Inv.call' {s' : Shared} {ch : List Addr} (I : Inv X pins σ H s) (ho : s'.os = s.os) (u : Un (frs X.stack) ch H H' s.heap s'.heap) (hok : HOk X.prog X.w H' s'.heap) (hg : AllBare s'.gens)
    (hch : ∀ b ∈ ch, (b ∈ X.ex ∨ X.s₀.heap.objs.size ≤ b) ∧ b ≠ X.env.locals ∧ (∀ x c, X.env.cells.lookup x = some c → c ≠ b) ∧ ∀ p ∈ X.pn ++ pins, p.1 ≠ b) : Inv X pins σ H' s' := by
  obtain ⟨h', g', d', t', o'⟩ := s'
  have e : o' = s.os := ho
  subst e
  exact I.call (g' := g') (t' := t') (d' := d') u hok hg hch
end

/-! ### the judgements -/
/-- an exception: its class, its own dict's address (where it has one), the abstract heap behind it -/
abbrev XK := Value → Option Addr → Hp → Prop
abbrev St := List (Option V)
abbrev VK := V → Hp → Prop
/-- an expression's reading; a test's; an argument list's -/
abbrev TE := St → Hp → VK → Prop
abbrev TT := St → Hp → (Bool → Hp → Prop) → Prop
abbrev TA := St → Hp → (List V → Hp → Prop) → Prop
/-- what is wanted behind a statement -/
structure Ends where
  nx : St → Hp → Prop
  rt : VK
  bk : St → Hp → Prop := fun _ _ => False
  ct : St → Hp → Prop := fun _ _ => False
abbrev TS := Ends → St → Hp → Prop

def EP (X : Cx) (pins : List (Addr × Obj)) (σ : St) (Q : VK) (u : Value) (s' : Shared) : Prop := ∃ v H', Inv X pins σ H' s' ∧ RelV v u ∧ Q v H'
def TP (X : Cx) (pins : List (Addr × Obj)) (σ : St) (Q : Bool → Hp → Prop) (b : Bool) (s' : Shared) : Prop := ∃ H', Inv X pins σ H' s' ∧ Q b H'
def AP (X : Cx) (pins : List (Addr × Obj)) (σ : St) (Q : List V → Hp → Prop) (us : List Value) (s' : Shared) : Prop := ∃ vs H', Inv X pins σ H' s' ∧ Vals vs us ∧ Q vs H'
def SP (X : Cx) (pins : List (Addr × Obj)) (D : Ends) (f : Flow) (s' : Shared) : Prop :=
  match f with
  | .next => ∃ σ' H', Inv X pins σ' H' s' ∧ D.nx σ' H'
  | .brk => ∃ σ' H', Inv X pins σ' H' s' ∧ D.bk σ' H'
  | .cont => ∃ σ' H', Inv X pins σ' H' s' ∧ D.ct σ' H'
  | .ret u => ∃ v σ' H', Inv X pins σ' H' s' ∧ RelV v u ∧ D.rt v H'

def PE (X : Cx) (e : Expr) (t : TE) : Prop :=
  ∀ (pins : List (Addr × Obj)) (s : Shared) (σ : St) (H : Hp) (Q : VK), Inv X pins σ H s → t σ H Q → wpAny (model X.prog X.w) X.A (eval e X.env) (EP X pins σ Q) X.xe s
def PT (X : Cx) (e : Expr) (t : TT) : Prop :=
  ∀ (pins : List (Addr × Obj)) (s : Shared) (σ : St) (H : Hp) (Q : Bool → Hp → Prop), Inv X pins σ H s → t σ H Q → wpAny (model X.prog X.w) X.A (isTrue e X.env (eval e X.env)) (TP X pins σ Q) X.xe s
/-- a test whatever its 'whole' is (and, or) -/
def PW (X : Cx) (e : Expr) (t : TT) : Prop :=
  ∀ (whole : Sem Value) (pins : List (Addr × Obj)) (s : Shared) (σ : St) (H : Hp) (Q : Bool → Hp → Prop), Inv X pins σ H s → t σ H Q → wpAny (model X.prog X.w) X.A (isTrue e X.env whole) (TP X pins σ Q) X.xe s
theorem PW.pt {X : Cx} {e : Expr} {t : TT} (h : PW X e t) : PT X e t := h _
/-- an argument list (no star), from the left -/
def PA (X : Cx) (es : List Expr) (t : TA) : Prop :=
  ∀ (pos : Pos) (pins : List (Addr × Obj)) (s : Shared) (σ : St) (H : Hp) (Q : List V → Hp → Prop), Inv X pins σ H s → t σ H Q → wpAny (model X.prog X.w) X.A (spliced (backTo pos (starEach es X.env))) (AP X pins σ Q) X.xe s
def PS (X : Cx) (st : Stmt) (t : TS) : Prop :=
  ∀ (pins : List (Addr × Obj)) (s : Shared) (σ : St) (H : Hp) (D : Ends), Inv X pins σ H s → t D σ H → wpAny (model X.prog X.w) X.A (exec st X.env) (SP X pins D) X.xe s
def PSs (X : Cx) (st : List Stmt) (t : TS) : Prop :=
  ∀ (pins : List (Addr × Obj)) (s : Shared) (σ : St) (H : Hp) (D : Ends), Inv X pins σ H s → t D σ H → wpAny (model X.prog X.w) X.A (execs st X.env) (SP X pins D) X.xe s
/-- weaken the end -/
theorem thn {α : Type} {t : Sem α} {Q Q' : α → Shared → Prop} {M : Model} {A : Around} {E : Value → Shared → Prop} {s : Shared} (h : wpAny M A t Q E s) (hQ : ∀ a s, Q a s → Q' a s) : wpAny M A t Q' E s := wpAny_mono h hQ fun _ _ x => x
end L2

namespace L2
open PySem PySem.Spec PyProof.Rows
section
variable {X : Cx}

/-! ### names and constants -/
def tVar (i : Nat) : TE := fun σ H Q => ∃ v, σ[i]? = some (some v) ∧ Q v H
def tC (v : V) : TE := fun _ H Q => Q v H
theorem pe_var {i : Nat} {x : Str} {pos : Pos} (hN : X.N[i]? = some x) (hv : Vis X.env.scope x) (hd : (x == ("__debug__" : Str)) = false := by decide) (hcd : (x == ("__classdict__" : Str)) = false := by decide) : PE X (.Name x pos) (tVar i) := by
  intro pins s σ H Q I h
  obtain ⟨v, e, h⟩ := h
  obtain ⟨m, hn, hl⟩ := I.loc
  obtain ⟨u, r, l⟩ := hl i x v hN e hv
  have fin : EP X pins σ Q u s := ⟨v, H, I, r, h⟩
  rcases l with ⟨hk, hm⟩ | ⟨hk, c, hc, hcell⟩
  · exact wpAny_Name (wpAny_loadName_local I.ok.kind hk hn hm fin) hd
  · rcases hk with hk | hk
    · exact wpAny_Name (wpAny_loadName_cell I.ok.kind hk hc hcell fin) hd
    · exact wpAny_Name (wpAny_loadName_free I.ok.kind hk hc hcell fin hcd) hd
theorem pe_int {i j pos} : PE X (.Constant (.int i) j pos) (tC (.int i)) := fun _ _ _ H _ I h => wpAny_Constant_int ⟨.int i, H, I.tok _, ⟨_, rfl⟩, h⟩
theorem pe_non {j pos} : PE X (.Constant .none j pos) (tC .non) := fun _ _ _ H _ I h => Constant_none ⟨.non, H, I, rfl, h⟩
theorem pe_str {x j pos} : PE X (.Constant (.str x) j pos) (tC (.str x)) := fun _ _ _ H _ I h => Calls.Constant_str ⟨.str x, H, I.tok _, ⟨_, rfl⟩, h⟩

/-- a global name of the def -/
def Gl (X : Cx) (x : Str) : Prop := X.env.kindOf x = some .globalImplicit
theorem ld_glob {E : Value → Shared → Prop} {pins : List (Addr × Obj)} {s : Shared} {σ : St} {H : Hp} {x : Str} {u : Value} {pos : Pos} {Q : Value → Shared → Prop} (I : Inv X pins σ H s) (hg : Gl X x) (hm : X.mg x = some u) (h : Q u s)
    (hd : (x == ("__debug__" : Str)) = false := by decide) : wpAny (model X.prog X.w) X.A (eval (.Name x pos) X.env) Q E s :=
  Calls.Name_function_global I.ok.kind hg (Calls.loadGlobal_global (by rw [I.ok.glob]; exact I.mod.glob.keeps I.bk) hm h) hd
theorem ld_blt {E : Value → Shared → Prop} {pins : List (Addr × Obj)} {s : Shared} {σ : St} {H : Hp} {x : Str} {u : Value} {pos : Pos} {Q : Value → Shared → Prop} (I : Inv X pins σ H s) (hg : Gl X x) (hm : X.mg x = none) (hv : bootBuiltins x = some u) (h : Q u s)
    (hn : x ≠ "__name__" := by decide) (hd : (x == ("__debug__" : Str)) = false := by decide) : wpAny (model X.prog X.w) X.A (eval (.Name x pos) X.env) Q E s := by
  obtain ⟨mb, h1, h2⟩ := I.mod.blt
  exact Calls.Name_function_global I.ok.kind hg (Calls.loadGlobal_builtin (by rw [I.ok.glob]; exact I.mod.glob.keeps I.bk) hm (by rw [I.ok.blt]; exact h1.keeps I.bk) ((h2 x hn).trans hv) h) hd
/-- a module's constant, a class, a function, as a value -/
theorem pe_glob {x : Str} {v : V} {u : Value} {pos : Pos} (hg : Gl X x) (hm : X.mg x = some u) (r : RelV v u) (hd : (x == ("__debug__" : Str)) = false := by decide) : PE X (.Name x pos) (tC v) :=
  fun _ _ _ H _ I h => ld_glob I hg hm ⟨v, H, I, r, h⟩ hd
/-! ### arithmetic -/
variable {a b : Expr} {ta tb : TE} {pos : Pos}
/-! ### comparisons -/
/-- a comparison as a value, as a test -/
def tB (t : TE) : TT := fun σ H Q => t σ H fun x H1 => ∃ c, x = .bl c ∧ Q c H1
/-- an expression whose value is a bool, as a test -/
theorem pt_val {e : Expr} {t : TE} (h : PE X e t) (he : ∀ whole, isTrue e X.env whole = (do let v ← whole; standAt e.pos; holding [v] (truthy v)) := by intro _; rfl) : PT X e (tB t) := by
  intro pins s σ H Q I hw
  refine isTrue_plain (thn (h pins s σ H _ I hw) fun v s1 ⟨x, H1, I1, r1, q1⟩ => ?_) (he _)
  obtain ⟨d, rfl, q⟩ := q1
  cases r1
  exact wpAny_truthy_bool ⟨H1, I1, q⟩

/-! ### and, or, not -/
variable {tA tB' : TT} {rest : List Expr}
def tAnd (t u : TT) : TT := fun σ H Q => t σ H fun c H1 => if c = true then u σ H1 Q else Q false H1
def tOr (t u : TT) : TT := fun σ H Q => t σ H fun c H1 => if c = true then Q true H1 else u σ H1 Q
def tNot (t : TT) : TT := fun σ H Q => t σ H fun c H1 => Q (!c) H1
theorem pw_and1 (ha : PT X a tA) : PW X (.BoolOp .And [a] pos) tA := by
  intro wh pins s σ H Q I h
  refine isTrue_and (thn (ha pins s σ H Q I h) fun c s1 e => ?_)
  cases c with
  | true => exact isTrue_and_nil e
  | false => exact e
theorem pw_or1 (ha : PT X a tA) : PW X (.BoolOp .Or [a] pos) tA := by
  intro wh pins s σ H Q I h
  refine isTrue_or (thn (ha pins s σ H Q I h) fun c s1 e => ?_)
  cases c with
  | false => exact isTrue_or_nil e
  | true => exact e
theorem pw_and (ha : PT X a tA) (hb : PW X (.BoolOp .And (b :: rest) pos) tB') : PW X (.BoolOp .And (a :: b :: rest) pos) (tAnd tA tB') := by
  intro wh pins s σ H Q I h
  refine isTrue_and (thn (ha pins s σ H _ I h) fun c s1 ⟨H1, I1, q1⟩ => ?_)
  cases c with
  | true => exact hb wh pins s1 σ H1 Q I1 q1
  | false => exact ⟨H1, I1, q1⟩
theorem pw_or (ha : PT X a tA) (hb : PW X (.BoolOp .Or (b :: rest) pos) tB') : PW X (.BoolOp .Or (a :: b :: rest) pos) (tOr tA tB') := by
  intro wh pins s σ H Q I h
  refine isTrue_or (thn (ha pins s σ H _ I h) fun c s1 ⟨H1, I1, q1⟩ => ?_)
  cases c with
  | true => exact ⟨H1, I1, q1⟩
  | false => exact hb wh pins s1 σ H1 Q I1 q1
theorem pt_not (ha : PT X a tA) : PT X (.UnaryOp .Not a pos) (tNot tA) := by
  intro pins s σ H Q I h
  exact isTrue_not (ha pins s σ H (fun c H1 => Q (!c) H1) I h)
/-- a if t else b -/
def tIf (t : TT) (ta tb : TE) : TE := fun σ H Q => t σ H fun c H1 => if c = true then ta σ H1 Q else tb σ H1 Q
theorem pe_ifExp {c : Expr} (hc : PT X c tA) (ha : PE X a ta) (hb : PE X b tb) : PE X (.IfExp c a b pos) (tIf tA ta tb) := by
  intro pins s σ H Q I h
  refine wpAny_IfExp (thn (hc pins s σ H _ I h) fun d s1 ⟨H1, I1, q1⟩ => ?_)
  cases d with
  | true => exact ha pins s1 σ H1 Q I1 q1
  | false => exact hb pins s1 σ H1 Q I1 q1
end
end L2

namespace L2
open PySem PySem.Spec PyProof.Rows

/-! ### a list, a tuple that is read: tracked, frozen, or an object of the module -/
def SqL (K : PySem.W.Frag) (H : Hp) (a : Addr) (xs : List V) : Prop :=
  Rd H a (.lst xs) ∨
    ∃ (o : Obj) (its : Array Value) (n : Nat), K.lookup a = some o ∧ o.cls = .type "list" ∧ o.dict = none ∧ o.data = .seq its n ∧ its.size ≤ sizeLine ∧ Vals xs its.toList
def SqT (K : PySem.W.Frag) (H : Hp) (a : Addr) (xs : List V) : Prop :=
  Rd H a (.tup xs) ∨
    ∃ (o : Obj) (its : Array Value) (n : Nat), K.lookup a = some o ∧ o.cls = .type "tuple" ∧ o.data = .seq its n ∧ its.size ≤ sizeLine ∧ Vals xs its.toList
def absV : Value → Option V
  | .none => some .non
  | .bool b => some (.bl b)
  | .int i _ => some (.int i)
  | .str x _ => some (.str x)
  | .bytes b _ => some (.byt b)
  | .float b _ => some (.flt b)
  | .ref a => some (.ref a)
  | .type n => some (.ty n)
  | _ => none
theorem RelV.abs {x : V} {u : Value} (r : RelV x u) : absV u = some x := by
  cases x with
  | non => cases r; rfl
  | bl _ => cases r; rfl
  | int _ => obtain ⟨t, rfl⟩ := r; rfl
  | str _ => obtain ⟨t, rfl⟩ := r; rfl
  | byt _ => obtain ⟨t, rfl⟩ := r; rfl
  | flt _ => obtain ⟨t, rfl⟩ := r; rfl
  | ref _ => cases r; rfl
  | ty _ => cases r; rfl
theorem RelV.inj {x y : V} {u : Value} (r : RelV x u) (q : RelV y u) : x = y := Option.some.inj (r.abs.symm.trans q.abs)
theorem Vals.inj : ∀ {xs ys : List V} {us : List Value}, Vals xs us → Vals ys us → xs = ys
  | _, _, _, .nil, .nil => rfl
  | _, _, _, .cons r t, .cons r' t' => by rw [r.inj r', Vals.inj t t']
section
variable {X : Cx} {pins : List (Addr × Obj)} {σ : St} {H : Hp} {s : Shared} {a : Addr} {xs ys : List V}
theorem SqL.of {K : PySem.W.Frag} (h : H a = some (.lst xs)) : SqL K H a xs := .inl (.inl h)
theorem SqT.of {K : PySem.W.Frag} (h : H a = some (.tup xs)) : SqT K H a xs := .inl (.inl h)
theorem Inv.list (I : Inv X pins σ H s) (h : SqL X.K H a xs) : ∃ its : List Value, Vals xs its ∧ PlainL s.heap a its.toArray ∧ xs.length ≤ sizeLine := by
  rcases h with h | ⟨o, its, n, hk, hc, hd, hs, hz, r⟩
  · obtain ⟨z, its, n, r, e⟩ := h.ok I.hok
    exact ⟨its, r, ⟨_, n, e, rfl, rfl, rfl⟩, z⟩
  · refine ⟨its.toList, r, ⟨o, n, I.kIn a o hk, hc, hd, by simpa using hs⟩, ?_⟩
    have e := r.length
    simp only [Array.length_toList] at e
    omega
theorem Inv.tuple (I : Inv X pins σ H s) (h : SqT X.K H a xs) : ∃ its : List Value, Vals xs its ∧ IsTup s.heap a its.toArray ∧ xs.length ≤ sizeLine := by
  rcases h with h | ⟨o, its, n, hk, hc, hs, hz, r⟩
  · obtain ⟨z, its, r, p⟩ := h.ok I.hok
    exact ⟨its, r, p, z⟩
  · refine ⟨its.toList, r, ⟨o, I.kIn a o hk, hc, n, by simpa using hs⟩, ?_⟩
    have e := r.length
    simp only [Array.length_toList] at e
    omega
theorem Inv.list_inj (I : Inv X pins σ H s) (h : SqL X.K H a xs) (h' : SqL X.K H a ys) : xs = ys := by
  obtain ⟨its, r, ⟨o, n, e, _, _, d⟩, _⟩ := I.list h
  obtain ⟨its', r', ⟨o', n', e', _, _, d'⟩, _⟩ := I.list h'
  rw [e] at e'; cases e'
  rw [d] at d'
  injection d' with d1 _
  have : its = its' := by simpa using congrArg Array.toList d1
  subst this
  exact r.inj r'
theorem Inv.tuple_inj (I : Inv X pins σ H s) (h : SqT X.K H a xs) (h' : SqT X.K H a ys) : xs = ys := by
  obtain ⟨its, r, ⟨o, e, _, n, d⟩, _⟩ := I.tuple h
  obtain ⟨its', r', ⟨o', e', _, n', d'⟩, _⟩ := I.tuple h'
  rw [e] at e'; cases e'
  rw [d] at d'
  injection d' with d1 _
  have : its = its' := by simpa using congrArg Array.toList d1
  subst this
  exact r.inj r'
end

/-! ### another wish about exceptions -/
abbrev Cx.wish (X : Cx) (E : Value → Shared → Prop) : Cx := { X with xe := E }
/-- no exception leaves -/
abbrev Cx.nox (X : Cx) : Cx := X.wish fun _ _ => False
theorem Cx.Ok.wish {X : Cx} (ok : X.Ok) (E : Value → Shared → Prop) : (X.wish E).Ok :=
  ⟨ok.mod, ok.kind, ok.glob, ok.blt, ok.above, ok.inj, ok.has, ok.cab, ok.hd, ok.frames, ok.stk, ok.exf, ok.bs, ok.bsz, ok.noex, ok.exfs, ok.funs, ok.frf⟩
theorem Cx.Ok.unwish {X : Cx} {E : Value → Shared → Prop} (ok : (X.wish E).Ok) : X.Ok :=
  ⟨ok.mod, ok.kind, ok.glob, ok.blt, ok.above, ok.inj, ok.has, ok.cab, ok.hd, ok.frames, ok.stk, ok.exf, ok.bs, ok.bsz, ok.noex, ok.exfs, ok.funs, ok.frf⟩
section
variable {X : Cx} {pins : List (Addr × Obj)} {σ : St} {H : Hp} {s : Shared} {E : Value → Shared → Prop}
theorem Inv.wish (I : Inv X pins σ H s) (E : Value → Shared → Prop) : Inv (X.wish E) pins σ H s := ⟨I.ok.wish E, I.os, I.bare, I.base, I.loc, I.cell, I.free, I.freeC, I.pin, I.hok, I.len⟩
theorem Inv.unwish (I : Inv (X.wish E) pins σ H s) : Inv X pins σ H s := ⟨I.ok.unwish, I.os, I.bare, I.base, I.loc, I.cell, I.free, I.freeC, I.pin, I.hok, I.len⟩
theorem SP.unwish {D : Ends} {f : Flow} {s' : Shared} (h : SP (X.wish E) pins D f s') : SP X pins D f s' := by
  cases f with
  | next => obtain ⟨σ', H', I, q⟩ := h; exact ⟨σ', H', I.unwish, q⟩
  | brk => obtain ⟨σ', H', I, q⟩ := h; exact ⟨σ', H', I.unwish, q⟩
  | cont => obtain ⟨σ', H', I, q⟩ := h; exact ⟨σ', H', I.unwish, q⟩
  | ret u => obtain ⟨v, σ', H', I, r, q⟩ := h; exact ⟨v, σ', H', I.unwish, r, q⟩
theorem PSs.nox {st : List Stmt} {t : TS} (h : PSs X.nox st t) : PSs X st t := fun pins s σ H D I hw =>
  wpAny_mono (h pins s σ H D (I.wish _) hw) (fun _ _ q => q.unwish) fun _ _ z => False.elim z
end

/-! ### blocks and small statements -/
section
variable {X : Cx} {st : Stmt} {rest : List Stmt} {t u : TS} {e : Expr} {te : TE} {pos : Pos}
def tNext : TS := fun D σ H => D.nx σ H
def tSeq (t u : TS) : TS := fun D σ H => t { D with nx := u D } σ H
theorem pss_nil : PSs X [] tNext := fun _ _ σ H _ I h => wpAny_execs_nil ⟨σ, H, I, h⟩
theorem pss_cons (h1 : PS X st t) (h2 : PSs X rest u) : PSs X (st :: rest) (tSeq t u) := by
  intro pins s σ H D I h
  refine wpAny_execs_cons (thn (h1 pins s σ H { D with nx := u D } I h) fun f s1 q => ?_)
  cases f with
  | next =>
    obtain ⟨σ', H', I', q⟩ := q
    exact h2 pins s1 σ' H' D I' q
  | ret v => exact q
  | brk => exact q
  | cont => exact q
theorem pss_one (h1 : PS X st t) : PSs X [st] t := by
  intro pins s σ H D I h
  refine wpAny_execs_cons (thn (h1 pins s σ H D I h) fun f s1 q => ?_)
  cases f with
  | next => exact wpAny_execs_nil q
  | ret v => exact q
  | brk => exact q
  | cont => exact q
/-- in a def's body nothing is shown -/
theorem Inv.quiet {pins : List (Addr × Obj)} {σ : St} {H : Hp} {s : Shared} (I : Inv X pins σ H s) : interactive X.env = false := by simp [interactive, I.ok.kind]
/-- an expression whose value is dropped -/
def tDrop (te : TE) : TS := fun D σ H => te σ H fun _ H1 => D.nx σ H1
theorem ps_expr (he : PE X e te) (hs : swapsWith e none pos.line X.env = pure false := by rfl) : PS X (.Expr e pos) (tDrop te) := by
  intro pins s σ H D I h
  exact wpAny_Expr_any (thn (he pins s σ H _ I h) fun v s1 ⟨x, H1, I1, r1, q1⟩ => ⟨σ, H1, I1, q1⟩) I.quiet hs
def tRet (te : TE) : TS := fun D σ H => te σ H D.rt
theorem ps_ret (he : PE X e te) : PS X (.Return (some e) pos) (tRet te) := by
  intro pins s σ H D I h
  exact wpAny_Return_some (thn (he pins s σ H _ I h) fun v s1 ⟨x, H1, I1, r1, q1⟩ => ⟨x, σ, H1, I1, r1, q1⟩)
def tRetN : TS := fun D _ H => D.rt .non H
def tIfS (c : TT) (t u : TS) : TS := fun D σ H => c σ H fun b H1 => if b = true then t D σ H1 else u D σ H1
theorem ps_if {c : Expr} {a b : List Stmt} {tc : TT} (hc : PT X c tc) (ha : PSs X a t) (hb : PSs X b u) : PS X (.If c a b pos) (tIfS tc t u) := by
  intro pins s σ H D I h
  refine wpAny_If (thn (hc pins s σ H _ I h) fun d s1 ⟨H1, I1, q1⟩ => ?_)
  cases d with
  | true => exact ha pins s1 σ H1 D I1 q1
  | false => exact hb pins s1 σ H1 D I1 q1
/-- code that the proof never comes to -/
def tNever : TS := fun _ _ _ => False
theorem ps_never : PS X st tNever := fun _ _ _ _ _ _ h => h.elim
end

/-! ### targets -/
abbrev TG := V → St → Hp → (St → Hp → Prop) → Prop
abbrev TGs := List V → St → Hp → (St → Hp → Prop) → Prop
def PG (X : Cx) (target : Expr) (t : TG) : Prop :=
  ∀ (pins : List (Addr × Obj)) (s : Shared) (σ : St) (H : Hp) (v : V) (u : Value) (Q : St → Hp → Prop), Inv X pins σ H s → RelV v u → t v σ H Q →
    wpAny (model X.prog X.w) X.A (assign target X.env u) (fun _ s' => ∃ σ' H', Inv X pins σ' H' s' ∧ Q σ' H') X.xe s
/-- several targets, one after another -/
def PGs (X : Cx) (ts : List Expr) (t : TGs) : Prop :=
  ∀ (pins : List (Addr × Obj)) (s : Shared) (σ : St) (H : Hp) (vs : List V) (us : List Value) (Q : St → Hp → Prop), Inv X pins σ H s → Vals vs us → t vs σ H Q →
    wpAny (model X.prog X.w) X.A (assignInOrder ((assignEach ts X.env).map (·.2)) us) (fun _ s' => ∃ σ' H', Inv X pins σ' H' s' ∧ Q σ' H') X.xe s
/-- o[i] = v, by values -/
abbrev TSet := V → V → V → Hp → (Hp → Prop) → Prop
def PSet (X : Cx) (t : TSet) : Prop :=
  ∀ (pins : List (Addr × Obj)) (s : Shared) (σ : St) (H : Hp) (o i v : V) (ov iv u : Value) (Q : Hp → Prop), Inv X pins σ H s → RelV o ov → RelV i iv → RelV v u → t o i v H Q →
    wpAny (model X.prog X.w) X.A (setItem ov iv u) (fun _ s' => ∃ H', Inv X pins σ H' s' ∧ Q H') X.xe s
/-- a op= b, by values -/
abbrev TIp := V → V → Hp → VK → Prop
def PIp (X : Cx) (op : Operator) (t : TIp) : Prop :=
  ∀ (pins : List (Addr × Obj)) (s : Shared) (σ : St) (H : Hp) (x y : V) (v u : Value) (Q : VK), Inv X pins σ H s → RelV x v → RelV y u → t x y H Q →
    wpAny (model X.prog X.w) X.A (inplaceOp op v u) (EP X pins σ Q) X.xe s
section
variable {X : Cx} {pos : Pos}
def gName (i : Nat) : TG := fun v σ H Q => Q (σ.set i (some v)) H
theorem pg_name {i : Nat} {x : Str} (hN : X.N.Nodup) (hi : X.N[i]? = some x) (hx : Loc X.env.scope x) (hf : X.fn x = true ∨ X.env.scope.names.lookup x = some .local := by first | exact .inl rfl | exact .inr rfl | assumption) : PG X (.Name x pos) (gName i) := by
  intro pins s σ H v u Q I r h
  exact wpAny_assign_Name (store_ok I hN hi hx r (fun s' I' => ⟨_, H, I', h⟩) hf)
def gNil : TGs := fun vs σ H Q => vs = [] ∧ Q σ H
def gCons (t : TG) (u : TGs) : TGs := fun vs σ H Q => ∃ v r, vs = v :: r ∧ t v σ H fun σ' H' => u r σ' H' Q
theorem pgs_nil : PGs X [] gNil := by
  intro pins s σ H vs us Q I r h
  obtain ⟨e, h⟩ := h
  subst e
  cases r
  exact assignInOrder_nil ⟨σ, H, I, h⟩
theorem pgs_cons {e : Expr} {es : List Expr} {t : TG} {u : TGs} (h1 : PG X e t) (h2 : PGs X es u)
    (hs : (assignEach (e :: es) X.env).map (·.2) = assign e X.env :: (assignEach es X.env).map (·.2) := by rfl) : PGs X (e :: es) (gCons t u) := by
  intro pins s σ H vs us Q I r h
  obtain ⟨v, vr, e1, h⟩ := h
  subst e1
  cases r with
  | cons r rr =>
    rw [hs]
    refine assignInOrder_cons (thn (h1 pins s σ H _ _ _ I r h) fun _ s1 ⟨σ1, H1, I1, q1⟩ => ?_)
    exact h2 pins s1 σ1 H1 _ _ Q I1 rr q1
/-- (a, b, ..) = a tuple of that length -/
def gTup (K : PySem.W.Frag) (n : Nat) (t : TGs) : TG := fun v σ H Q => ∃ a xs, v = .ref a ∧ SqT K H a xs ∧ xs.length = n ∧ t xs σ H Q
theorem pg_tup {es : List Expr} {k : Nat} {t : TGs} {n : Nat} (hc : X.calm = true) (h : PGs X es t)
    (hn : (assignEach es X.env).length = n := by rfl) (hst : (assignEach es X.env).findIdx? (·.1) = none := by rfl) : PG X (.Tuple es k pos) (gTup X.K n t) := by
  intro pins s σ H v u Q I r hw
  obtain ⟨a, xs, e1, hq, hl, hw⟩ := hw
  subst e1
  cases r
  obtain ⟨its, rv, ht, hz⟩ := I.tuple hq
  refine assign_Tuple_tuple (I.ok.hd hc) ht (by simp [hn, ← hl, rv.length]) hst fun h' hx => ?_
  have I1 : Inv X pins σ H { s with heap := h' } := I.kept (t' := s.toks) fun b o e => hx b o (Nat.ne_of_lt (Heap.lt_size e)) e
  exact h pins _ σ H xs _ Q I1 (by simpa using rv) hw
/-- o[i] = .. -/
def gSub (to ti : TE) (t : TSet) : TG := fun v σ H Q => to σ H fun o H1 => ti σ H1 fun i H2 => t o i v H2 fun H3 => Q σ H3
theorem pg_sub {o i : Expr} {to ti : TE} {t : TSet} (ho : PE X o to) (hi : PE X i ti) (hs : PSet X t)
    (ha : ∀ v, assign (.Subscript o i pos) X.env v = (do
      let ov ← holding [v] (eval o X.env)
      let iv ← holding [v, ov] (eval i X.env)
      standAt pos
      holding [v, ov, iv] (setItem ov iv v)
      release [v, ov, iv] []) := by intro _; rfl) : PG X (.Subscript o i pos) (gSub to ti t) := by
  intro pins s σ H v u Q I r h
  rw [ha]
  refine wpAny_bind (wpAny_holding (thn (ho pins s σ H _ I h) fun ov s1 ⟨x, H1, I1, r1, q1⟩ => ?_))
  refine wpAny_bind (wpAny_holding (thn (hi pins s1 σ H1 _ I1 q1) fun iv s2 ⟨y, H2, I2, r2, q2⟩ => ?_))
  refine wpAny_bind (wpAny_standAt (wpAny_bind (wpAny_holding (thn (hs pins s2 σ H2 x y v ov iv u _ I2 r1 r2 r q2) fun _ s3 ⟨H3, I3, q3⟩ => ?_))))
  exact wpAny_release ⟨σ, H3, I3, q3⟩
/-- target = value -/
def tAsg (te : TE) (g : TG) : TS := fun D σ H => te σ H fun x H1 => g x σ H1 D.nx
theorem ps_asg {tg e : Expr} {te : TE} {g : TG} (he : PE X e te) (hg : PG X tg g) (hs : swapsWithSole [tg] e pos.line X.env = pure false := by rfl) (hw : swappedStores [tg] e X.env = pure none := by rfl)
    (h1 : (assignEach [tg] X.env).map (·.2) = [assign tg X.env] := by rfl) : PS X (.Assign [tg] e pos) (tAsg te g) := by
  intro pins s σ H D I h
  refine wpAny_Assign_stores (thn (he pins s σ H _ I h) fun v s1 ⟨x, H1, I1, r1, q1⟩ => ?_) hs hw
  rw [h1]
  exact thn (hg pins s1 σ H1 x v _ I1 r1 q1) fun _ s2 q => q
/-- name = value -/
theorem ps_set {i : Nat} {x : Str} {e : Expr} {te : TE} {pos' : Pos} (hN : X.N.Nodup) (hi : X.N[i]? = some x) (hx : Loc X.env.scope x) (he : PE X e te) (hs : swapsWith e (some (.Name x pos')) pos.line X.env = pure false := by rfl) (hf : X.fn x = true ∨ X.env.scope.names.lookup x = some .local := by first | exact .inl rfl | exact .inr rfl | assumption) :
    PS X (.Assign [.Name x pos'] e pos) (tAsg te (gName i)) := by
  intro pins s σ H D I h
  refine wpAny_Assign_Name (thn (he pins s σ H _ I h) fun v s1 ⟨y, H1, I1, r1, q1⟩ => ?_) hs
  exact store_ok I1 hN hi hx r1 (fun s2 I2 => ⟨_, H1, I2, q1⟩) hf
/-- name op= e -/
def tAug (i : Nat) (te : TE) (ti : TIp) : TS := fun D σ H => ∃ x, σ[i]? = some (some x) ∧ te σ H fun y H1 => ti x y H1 fun z H2 => D.nx (σ.set i (some z)) H2
theorem ps_aug {i : Nat} {x : Str} {e : Expr} {te : TE} {op : Operator} {ti : TIp} {pos' : Pos} (hN : X.N.Nodup) (hi : X.N[i]? = some x) (hx : Loc X.env.scope x) (he : PE X e te) (ho : PIp X op ti) (hf : X.fn x = true ∨ X.env.scope.names.lookup x = some .local := by first | exact .inl rfl | exact .inr rfl | assumption) :
    PS X (.AugAssign (.Name x pos') op e pos) (tAug i te ti) := by
  intro pins s σ H D I h
  obtain ⟨v, e1, h⟩ := h
  obtain ⟨m, hn, hl⟩ := I.loc
  have vis : Vis X.env.scope x := by rcases hx with k | k; exact .inl k; exact .inr (.inl k)
  obtain ⟨u, r, l⟩ := hl i x v hi e1 vis
  refine wpAny_AugAssign_Name ?_
  have go : wpAny (model X.prog X.w) X.A (eval e X.env) (fun w s₂ => wpAny (model X.prog X.w) X.A (inplaceOp op u w) (fun r s₃ => wpAny (model X.prog X.w) X.A (storeName X.env x r) (fun _ => SP X pins D .next) X.xe s₃) X.xe s₂) X.xe s := by
    refine thn (he pins s σ H _ I h) fun w s1 ⟨y, H1, I1, r1, q1⟩ => ?_
    refine thn (ho pins s1 σ H1 v y u w _ I1 r r1 q1) fun z s2 ⟨zv, H2, I2, r2, q2⟩ => ?_
    exact store_ok I2 hN hi hx r2 (fun s3 I3 => ⟨_, H2, I3, q2⟩) hf
  rcases l with ⟨hk, hm⟩ | ⟨hk, c, hc, hcell⟩
  · exact wpAny_loadName_local I.ok.kind hk hn hm go
  · rcases hk with hk | hk
    · exact wpAny_loadName_cell I.ok.kind hk hc hcell go
    · rcases hx with k | k
      · have : X.env.scope.names.lookup x = some .free := hk
        rw [k] at this; cases this
      · have : X.env.scope.names.lookup x = some .free := hk
        rw [k] at this; cases this
/-- ints -/
def ipI (f : Int → Int → Int) : TIp := fun x y H Q => ∃ i j, x = .int i ∧ y = .int j ∧ Q (.int (f i j)) H
theorem ip_add : PIp X .Add (ipI fun i j => i + j) := by
  intro pins s σ H x y v u Q I r1 r2 h
  obtain ⟨i, j, e1, e2, q⟩ := h
  subst e1; subst e2
  obtain ⟨t, rfl⟩ := r1
  obtain ⟨t', rfl⟩ := r2
  exact iadd_int ⟨.int _, H, I.tok _, ⟨_, rfl⟩, q⟩
theorem ip_sub : PIp X .Sub (ipI fun i j => i - j) := by
  intro pins s σ H x y v u Q I r1 r2 h
  obtain ⟨i, j, e1, e2, q⟩ := h
  subst e1; subst e2
  obtain ⟨t, rfl⟩ := r1
  obtain ⟨t', rfl⟩ := r2
  exact isub_int ⟨.int _, H, I.tok _, ⟨_, rfl⟩, q⟩
end

/-! ### while -/
section
variable {X : Cx} {pos : Pos}
/-- the invariant W with its measure -/
def tWhile (c : TT) (tb : TS) : TS := fun D σ H => ∃ W : Nat → St → Hp → Prop, (∃ m, W m σ H) ∧ ∀ m σ H, W m σ H →
  c σ H fun b H1 => if b = true then ∃ N : St → Hp → Prop, (∀ σ' H', N σ' H' → ∃ m', m' < m ∧ W m' σ' H') ∧ tb { D with nx := N, ct := N, bk := D.nx } σ H1 else D.nx σ H1
theorem ps_while {c : Expr} {body : List Stmt} {tc : TT} {tb : TS} (hp : PassesOwn (model X.prog X.w) X.A X.env X.xe) (hc : PT X c tc) (hb : PSs X body tb) : PS X (.While c body [] pos) (tWhile tc tb) := by
  intro pins s σ H D I h
  obtain ⟨W, ⟨m0, w0⟩, turn⟩ := h
  refine wpAny_While (codeAny_whileLoop (fun n s' => ∃ σ' H', Inv X pins σ' H' s' ∧ W n σ' H') ?_ m0 ⟨σ, H, I, w0⟩)
  rintro n s1 ⟨σ1, H1, I1, w1⟩
  refine wpAny_passesOwn hp (thn (hc pins s1 σ1 H1 _ I1 (turn n σ1 H1 w1)) fun b s2 ⟨H2, I2, q2⟩ => ?_)
  cases b with
  | true =>
    obtain ⟨N, hN, q2⟩ := q2
    rw [if_pos rfl]
    refine wpAny_passesOwn hp (thn (hb pins s2 σ1 H2 _ I2 q2) fun f s3 q3 => ?_)
    cases f with
    | next =>
      obtain ⟨σ3, H3, I3, n3⟩ := q3
      obtain ⟨m', hm, w3⟩ := hN σ3 H3 n3
      exact ⟨m', hm, σ3, H3, I3, w3⟩
    | cont =>
      obtain ⟨σ3, H3, I3, n3⟩ := q3
      obtain ⟨m', hm, w3⟩ := hN σ3 H3 n3
      exact ⟨m', hm, σ3, H3, I3, w3⟩
    | brk => exact q3
    | ret v => exact q3
  | false =>
    rw [if_neg Bool.false_ne_true]
    exact wpAny_execs_nil ⟨σ1, H2, I2, q2⟩
end

/-! ### what a loop or a comprehension walks -/
/-- at turn i: it yields x (the heap may grow), or it stops -/
structure It where
  go : Nat → Hp → Prop
  yld : Nat → Hp → V → Hp → Prop
  stop : Nat → Hp → Prop
/-- the iterator's own objects may turn: they are not the frame's, not pinned, younger than the entry (or a comprehension's own) -/
def FpOk (X : Cx) (pins : List (Addr × Obj)) (H : Hp) (b : Addr) : Prop :=
  H b = none ∧ b ≠ X.env.locals ∧ b ∉ X.fs ∧ (b ∈ X.ex ∨ X.s₀.heap.objs.size ≤ b) ∧ (∀ x c, X.env.cells.lookup x = some c → c ≠ b) ∧ ∀ p ∈ X.pn ++ pins, p.1 ≠ b
theorem Inv.fpOk {X : Cx} {pins : List (Addr × Obj)} {σ : St} {H H' : Hp} {s : Shared} {b : Addr} (I : Inv X pins σ H s) (hb : s.heap.objs.size ≤ b) (hn : H' b = none) : FpOk X pins H' b := by
  refine ⟨hn, Nat.ne_of_gt (Nat.lt_of_lt_of_le I.lt hb), I.nofs hb, .inr (Nat.le_trans I.sz hb), fun x c e z => ?_, fun p hp z => ?_⟩
  · obtain ⟨v, q⟩ := I.cell x c e
    exact absurd (Nat.lt_of_lt_of_le q.lt (by rw [z]; exact hb)) (Nat.lt_irrefl _)
  · exact absurd (Nat.lt_of_lt_of_le (Heap.lt_size (I.pin p hp).1) (by rw [z]; exact hb)) (Nat.lt_irrefl _)
structure Turn (P : Program) (w : World) (K : PySem.W.Frag) (tg : Expr) (J : It) (fp : List Addr) (it : Addr) (tn : Nat → Heap → Prop) : Prop where
  mem : it ∈ fp
  obj : ∀ i h, tn i h → ∀ b ∈ fp, ∃ o, h.get? b = some o ∧ ∀ v, o.data ≠ .cell v
  keep : ∀ i h h', tn i h → (∀ b ∈ fp, ∀ o, h.get? b = some o → h'.get? b = some o) → tn i h'
  item : ∀ (X : Cx), X.prog = P → X.w = w → X.K = K → X.calm = true → ∀ (i : Nat) (pins : List (Addr × Obj)) (s : Shared) (σ : St) (H : Hp) (E : Value → Shared → Prop), Inv X pins σ H s → (∀ b ∈ fp, FpOk X pins H b) → tn i s.heap → J.go i H →
    wpAny (model P w) X.A (pyNext (.ref it)) (fun r s1 => ∃ u, r = some u ∧
      wpAny (model P w) X.A (letOwnedTupleGo tg (.ref it) u) (fun _ s2 => ∃ x H', Inv X pins σ H' s2 ∧ RelV x u ∧ J.yld i H x H' ∧ tn (i + 1) s2.heap ∧ ∀ b ∈ fp, H' b = none) E s1) E s
  done : ∀ (X : Cx), X.prog = P → X.w = w → X.K = K → X.calm = true → ∀ (i : Nat) (pins : List (Addr × Obj)) (s : Shared) (σ : St) (H : Hp) (E : Value → Shared → Prop), Inv X pins σ H s → (∀ b ∈ fp, FpOk X pins H b) → tn i s.heap → J.stop i H →
    wpAny (model P w) X.A (pyNext (.ref it)) (fun r s1 => r = none ∧ Inv X pins σ H s1) E s
  self : ∀ (A : Around) (i : Nat) (s : Shared) (Q : Value → Shared → Prop) (E : Value → Shared → Prop), tn i s.heap → Q (.ref it) s → wpAny (model P w) A (pyIter (.ref it)) Q E s
abbrev TI := St → Hp → (It → Hp → Prop) → Prop
/-- an iterator has come -/
def PIE (X : Cx) (pins : List (Addr × Obj)) (σ : St) (tg : Expr) (R : It → Hp → Prop) (itv : Value) (s2 : Shared) : Prop :=
  ∃ (it : Addr) (fp : List Addr) (tn : Nat → Heap → Prop) (J : It) (H' : Hp), itv = .ref it ∧ Inv X pins σ H' s2 ∧ Turn X.prog X.w X.K tg J fp it tn ∧ tn 0 s2.heap ∧ (∀ b ∈ fp, FpOk X pins H' b) ∧ R J H'
def PI (X : Cx) (tg iter : Expr) (wi : TI) : Prop :=
  ∀ (pins : List (Addr × Obj)) (s : Shared) (σ : St) (H : Hp) (R : It → Hp → Prop), Inv X pins σ H s → wi σ H R →
    wpAny (model X.prog X.w) X.A (eval iter X.env) (fun v s1 => wpAny (model X.prog X.w) X.A (pyIter v) (PIE X pins σ tg R) X.xe s1) X.xe s

/-- the step ahead of the store is nothing for an iterator that keeps no tuple -/
theorem go_of {M : Model} {A : Around} {E : Value → Shared → Prop} {s : Shared} {tg : Expr} {it : Addr} {u : Value} {o : Obj} {n : String} {vs : Array Value} {Q : Unit → Shared → Prop} (ho : s.heap.get? it = some o) (hc : o.cls = .type n) (hd : o.data = .fields vs)
    (hn : ["enumerate", "zip", "dict_itemiterator", "dict_reverseitemiterator", "odict_iterator", "itertools.zip_longest", "itertools.pairwise"].contains n = false) (hQ : Q () s) : wpAny M A (letOwnedTupleGo tg (.ref it) u) Q E s := by
  unfold letOwnedTupleGo
  cases tg <;> first
    | exact wpAny_pure hQ
    | (cases u <;> first
        | exact wpAny_pure hQ
        | (refine wpAny_bind (wpAny_load ho ?_)
           rw [hc, hd]
           show wpAny M A (if (["enumerate", "zip", "dict_itemiterator", "dict_reverseitemiterator", "odict_iterator", "itertools.zip_longest", "itertools.pairwise"].contains n && vs[0]? == some (rawInt _)) = true then _ else _) Q E s
           rw [if_neg (by intro h; rw [hn, Bool.false_and] at h; cases h)]
           exact wpAny_pure hQ))

/-- the list at a, as it stands at each turn (a loop may append to it) -/
def Itl (K : PySem.W.Frag) (a : Addr) : It :=
  ⟨fun i H => ∃ xs x, SqL K H a xs ∧ xs[i]? = some x, fun i H x H' => H' = H ∧ ∀ xs, SqL K H a xs → xs[i]? = some x, fun i H => ∃ xs, SqL K H a xs ∧ xs.length ≤ i⟩
def Itt (K : PySem.W.Frag) (a : Addr) : It :=
  ⟨fun i H => ∃ xs x, SqT K H a xs ∧ xs[i]? = some x, fun i H x H' => H' = H ∧ ∀ xs, SqT K H a xs → xs[i]? = some x, fun i H => ∃ xs, SqT K H a xs ∧ xs.length ≤ i⟩
/-- lo, lo + 1, .. (n of them) -/
def Itr (lo : Int) (n : Nat) : It := ⟨fun i _ => i < n, fun i H x H' => H' = H ∧ x = .int (lo + i), fun i _ => n ≤ i⟩
theorem turn_list {P : Program} {w : World} {K : PySem.W.Frag} {tg : Expr} (a it : Addr) : Turn P w K tg (Itl K a) [it] it (fun i h => h.IsListIter it a i) where
  mem := by simp
  obj := fun i h st b hb => by
    have e : b = it := by simpa using hb
    subst e
    obtain ⟨o, e, c, d⟩ := st
    exact ⟨o, e, fun v z => by rw [d] at z; cases z⟩
  keep := fun i h h' st k => st.at fun o e => k it (by simp) o e
  item := by
    intro X hP hw hK hc i pins s σ H E I hf st hg
    subst hP hw hK
    obtain ⟨xs, x, hq, hx⟩ := hg
    obtain ⟨its, rv, p, hz⟩ := I.list hq
    obtain ⟨u, hu, ru⟩ := rv.get hx
    obtain ⟨f0, f1, f2, f3, f4, f5⟩ := hf it (by simp)
    refine wpAny_pyNext_list_item st p.isList (x := u) (by simpa using hu) fun h' st' sb => ?_
    have I1 : Inv X pins σ H { s with heap := h' } := I.turned (t' := s.toks) (fun b o hb e => (sb.2 b hb).trans e) f0 f1 f3 f4 f5
    obtain ⟨o, e, c, d⟩ := id st'
    exact ⟨u, rfl, go_of (s := { s with heap := h' }) e c d (by decide) ⟨x, H, I1, ru, ⟨rfl, fun ys hy => by rw [I.list_inj hy hq]; exact hx⟩, st', fun b hb => (hf b hb).1⟩⟩
  done := by
    intro X hP hw hK hc i pins s σ H E I hf st hg
    subst hP hw hK
    obtain ⟨xs, hq, hx⟩ := hg
    obtain ⟨its, rv, p, hz⟩ := I.list hq
    obtain ⟨f0, f1, f2, f3, f4, f5⟩ := hf it (by simp)
    have hl := rv.length
    exact wpAny_pyNext_list_end (I.ok.hd hc) st p.isList (by simp; omega) fun h' eb => ⟨rfl, I.turned (t' := s.toks) (fun b o hb e => eb b o hb e) f0 f1 f3 f4 f5⟩
  self := fun _ _ _ _ _ st h => wpAny_pyIter_listiter st h
theorem turn_tuple {P : Program} {w : World} {K : PySem.W.Frag} {tg : Expr} (a it : Addr) : Turn P w K tg (Itt K a) [it] it (fun i h => h.IsTupleIter it a i) where
  mem := by simp
  obj := fun i h st b hb => by
    have e : b = it := by simpa using hb
    subst e
    obtain ⟨o, e, c, d⟩ := st
    exact ⟨o, e, fun v z => by rw [d] at z; cases z⟩
  keep := fun i h h' st k => st.at fun o e => k it (by simp) o e
  item := by
    intro X hP hw hK hc i pins s σ H E I hf st hg
    subst hP hw hK
    obtain ⟨xs, x, hq, hx⟩ := hg
    obtain ⟨its, rv, p, hz⟩ := I.tuple hq
    obtain ⟨u, hu, ru⟩ := rv.get hx
    obtain ⟨f0, f1, f2, f3, f4, f5⟩ := hf it (by simp)
    refine wpAny_pyNext_tuple_item st (show s.heap.IsTuple a its.toArray from p) (x := u) (by simpa using hu) fun h' st' sb => ?_
    have I1 : Inv X pins σ H { s with heap := h' } := I.turned (t' := s.toks) (fun b o hb e => (sb.2 b hb).trans e) f0 f1 f3 f4 f5
    obtain ⟨o, e, c, d⟩ := id st'
    exact ⟨u, rfl, go_of (s := { s with heap := h' }) e c d (by decide) ⟨x, H, I1, ru, ⟨rfl, fun ys hy => by rw [I.tuple_inj hy hq]; exact hx⟩, st', fun b hb => (hf b hb).1⟩⟩
  done := by
    intro X hP hw hK hc i pins s σ H E I hf st hg
    subst hP hw hK
    obtain ⟨xs, hq, hx⟩ := hg
    obtain ⟨its, rv, p, hz⟩ := I.tuple hq
    obtain ⟨f0, f1, f2, f3, f4, f5⟩ := hf it (by simp)
    have hl := rv.length
    exact wpAny_pyNext_tuple_end (I.ok.hd hc) st (show s.heap.IsTuple a its.toArray from p) (by simp; omega) fun h' eb => ⟨rfl, I.turned (t' := s.toks) (fun b o hb e => eb b o hb e) f0 f1 f3 f4 f5⟩
  self := fun _ _ _ _ _ st h => wpAny_pyIter_tupleiter st h
theorem turn_range {P : Program} {w : World} {K : PySem.W.Frag} {tg : Expr} (it : Addr) (lo : Int) (n : Nat) : Turn P w K tg (Itr lo n) [it] it (fun i h => IsRangeIter h it (lo + (i : Nat) * 1) ((n : Int) - (i : Nat)) 1) where
  mem := by simp
  obj := fun i h st b hb => by
    have e : b = it := by simpa using hb
    subst e
    exact ⟨_, st, fun v z => by
      have z' : Data.fields _ = Data.cell v := z
      cases z'⟩
  keep := fun i h h' st k => k it (by simp) _ st
  item := by
    intro X hP hw hK hc i pins s σ H E I hf st hg
    subst hP hw hK
    obtain ⟨f0, f1, f2, f3, f4, f5⟩ := hf it (by simp)
    have W := Walks.range (prog := X.prog) (w := X.w) (I.ok.hd hc) it lo 1 n
    refine W.item i s _ _ hg st fun v h' tk hv st' kk => ?_
    obtain ⟨t, rfl⟩ := hv
    have I1 : Inv X pins σ H { s with heap := h', toks := tk } := I.turned (fun b o hb e => kk b o (by simpa using hb) e) f0 f1 f3 f4 f5
    refine ⟨_, rfl, go_of (s := { s with heap := h', toks := tk }) (n := "range_iterator") st' rfl rfl (by decide) ⟨.int (lo + i), H, I1, ⟨t, ?_⟩, ⟨rfl, rfl⟩, st', fun b hb => (hf b hb).1⟩⟩
    rw [Int.mul_one]
  done := by
    intro X hP hw hK hc i pins s σ H E I hf st hg
    subst hP hw hK
    obtain ⟨f0, f1, f2, f3, f4, f5⟩ := hf it (by simp)
    exact wpAny_pyNext_range_end (I.ok.hd hc) st (by have : n ≤ i := hg; omega) fun h' eb => ⟨rfl, I.turned (t' := s.toks) (fun b o hb e => eb b o hb e) f0 f1 f3 f4 f5⟩
  self := fun _ _ _ _ _ st h => wpAny_pyIter_rangeiter st h
end L2

namespace L2
open PySem PySem.Spec PyProof.Rows
section
variable {X : Cx} {tg : Expr}
def iList (K : PySem.W.Frag) (tl : TE) : TI := fun σ H R => tl σ H fun x H1 => ∃ a, x = .ref a ∧ (∃ xs, SqL K H1 a xs) ∧ R (Itl K a) H1
def iTup (K : PySem.W.Frag) (tl : TE) : TI := fun σ H R => tl σ H fun x H1 => ∃ a, x = .ref a ∧ (∃ xs, SqT K H1 a xs) ∧ R (Itt K a) H1
theorem pi_list {l : Expr} {tl : TE} (hl : PE X l tl) : PI X tg l (iList X.K tl) := by
  intro pins s σ H R I h
  refine thn (hl pins s σ H _ I h) fun v s1 ⟨x, H1, I1, r1, q1⟩ => ?_
  obtain ⟨a, e, ⟨xs, hq⟩, q⟩ := q1
  subst e
  cases r1
  obtain ⟨its, rv, p, hz⟩ := I1.list hq
  refine wpAny_pyIter_list p.isList ?_
  refine ⟨s1.heap.objs.size, [s1.heap.objs.size], _, _, H1, rfl, I1.kept (t' := s1.toks) fun b o e => Heap.get?_push_of_some _ e, turn_list a _, ⟨_, Heap.get?_push_size _ rfl, rfl, rfl⟩, fun b hb => ?_, q⟩
  have e : b = s1.heap.objs.size := by simpa using hb
  subst e
  exact I1.fpOk (Nat.le_refl _) (I1.hok.fresh (Nat.le_refl _))
theorem pi_tup {l : Expr} {tl : TE} (hl : PE X l tl) : PI X tg l (iTup X.K tl) := by
  intro pins s σ H R I h
  refine thn (hl pins s σ H _ I h) fun v s1 ⟨x, H1, I1, r1, q1⟩ => ?_
  obtain ⟨a, e, ⟨xs, hq⟩, q⟩ := q1
  subst e
  cases r1
  obtain ⟨its, rv, p, hz⟩ := I1.tuple hq
  refine wpAny_pyIter_tuple (show s1.heap.IsTuple a its.toArray from p) ?_
  refine ⟨s1.heap.objs.size, [s1.heap.objs.size], _, _, H1, rfl, I1.kept (t' := s1.toks) fun b o e => Heap.get?_push_of_some _ e, turn_tuple a _, ⟨_, Heap.get?_push_size _ rfl, rfl, rfl⟩, fun b hb => ?_, q⟩
  have e : b = s1.heap.objs.size := by simpa using hb
  subst e
  exact I1.fpOk (Nat.le_refl _) (I1.hok.fresh (Nat.le_refl _))
/-- a range object just made, walked -/
theorem range_it {pins : List (Addr × Obj)} {σ : St} {H : Hp} {s : Shared} {R : It → Hp → Prop} {E : Value → Shared → Prop} {lo hi : Int} {t u v : Tok} {tk : Nat} (I : Inv X pins σ H s) (h1 : -(2 ^ 62) ≤ lo) (h2 : lo < 2 ^ 62) (h3 : -(2 ^ 62) ≤ hi) (h4 : hi < 2 ^ 62)
    (q : R (Itr lo (hi - lo).toNat) H) : wpAny (model X.prog X.w) X.A (pyIter (.ref s.heap.objs.size)) (PIE X pins σ tg R) E { s with heap := s.heap.push { cls := .type "range", data := .fields #[.int lo t, .int hi u, .int 1 v] }, toks := tk } := by
  refine wpAny_pyIter_range (IsRange.new ..) (small_one h1 h2 h3 h4) ?_
  have I1 : Inv X pins σ H { s with heap := s.heap.push { cls := .type "range", data := .fields #[.int lo t, .int hi u, .int 1 v] }, toks := tk } := I.kept fun b o e => Heap.get?_push_of_some _ e
  refine ⟨(s.heap.push { cls := .type "range", data := .fields #[.int lo t, .int hi u, .int 1 v] }).objs.size, [(s.heap.push { cls := .type "range", data := .fields #[.int lo t, .int hi u, .int 1 v] }).objs.size], _, _, H, rfl,
    I1.kept (t' := tk) fun b o e => Heap.get?_push_of_some _ e, turn_range _ lo (hi - lo).toNat, ?_, fun b hb => ?_, q⟩
  · have e1 : lo + ((0 : Nat) : Int) * 1 = lo := by simp
    have e2 : (((hi - lo).toNat : Nat) : Int) - ((0 : Nat) : Int) = Builtin.Range.rangeSize lo hi 1 := by rw [rangeSize_one]; split <;> omega
    show IsRangeIter _ _ (lo + ((0 : Nat) : Int) * 1) ((((hi - lo).toNat : Nat) : Int) - ((0 : Nat) : Int)) 1
    rw [e1, e2]
    exact Heap.get?_push_size _ rfl
  · have e : b = (s.heap.push { cls := .type "range", data := .fields #[.int lo t, .int hi u, .int 1 v] }).objs.size := by simpa using hb
    subst e
    exact I1.fpOk (Nat.le_refl _) (I1.hok.fresh (Nat.le_refl _))
def iRng1 (ta : TA) : TI := fun σ H R => ta σ H fun vs H1 => ∃ j : Int, vs = [.int j] ∧ -(2 ^ 62) ≤ j ∧ j < 2 ^ 62 ∧ R (Itr 0 j.toNat) H1
theorem pi_range1 {a : Expr} {ta : TA} {p pos : Pos} (hg : Gl X "range") (hm : X.mg "range" = none) (ha : PA X [a] ta) (hs : starEach [a] X.env = [(false, eval a X.env)] := by rfl) : PI X tg (.Call (.Name "range" p) [a] [] pos) (iRng1 ta) := by
  intro pins s σ H R I h
  refine Call_ (ld_blt I hg hm boot_range (PyProof.Rows.callWith_type1 (thn (ha pos pins s σ H _ I h) fun us s1 ⟨vs, H1, I1, r1, q1⟩ => ?_) hs rfl))
  obtain ⟨j, e, q1, q2, q⟩ := q1
  subst e
  cases r1 with
  | cons r rr =>
    cases rr
    obtain ⟨t, rfl⟩ := r
    exact call_range_1 (range_it I1 (by omega) (by omega) q1 q2 (by simpa using q))
/-! ### for -/
/-- W: the invariant by the turn and a measure; N: what the body is to reach -/
def tFor (wi : TI) (g : TG) (tb : TS) : TS := fun D σ H => wi σ H fun J H1 => ∃ W : Nat → Nat → St → Hp → Prop, (∃ m, W 0 m σ H1) ∧ ∀ i m σ H, W i m σ H →
  (J.stop i H ∧ D.nx σ H) ∨ (J.go i H ∧ ∃ N : St → Hp → Prop, (∀ σ' H', N σ' H' → ∃ m', m' < m ∧ W (i + 1) m' σ' H') ∧ ∀ x H', J.yld i H x H' → g x σ H' fun σ2 H2 => tb { D with nx := N, ct := N, bk := D.nx } σ2 H2)
/-- the records at fp as they stand -/
def pinsAt (fp : List Addr) (h : Heap) : List (Addr × Obj) := fp.filterMap fun b => (h.get? b).map fun o => (b, o)
theorem mem_pinsAt {fp : List Addr} {h : Heap} {b : Addr} {o : Obj} (hb : b ∈ fp) (e : h.get? b = some o) : (b, o) ∈ pinsAt fp h := List.mem_filterMap.mpr ⟨b, hb, by rw [e]; rfl⟩
theorem of_pinsAt {fp : List Addr} {h : Heap} {p : Addr × Obj} (hp : p ∈ pinsAt fp h) : p.1 ∈ fp ∧ h.get? p.1 = some p.2 := by
  obtain ⟨b, hb, e⟩ := List.mem_filterMap.mp hp
  cases q : h.get? b with
  | none => rw [q] at e; cases e
  | some o =>
    rw [q] at e
    have e' : (b, o) = p := Option.some.inj e
    subst e'
    exact ⟨hb, q⟩
theorem Inv.pinned {pins : List (Addr × Obj)} {σ : St} {H : Hp} {s : Shared} {fp : List Addr} (I : Inv X pins σ H s) (hf : ∀ b ∈ fp, FpOk X pins H b) (ho : ∀ b ∈ fp, ∃ o, s.heap.get? b = some o ∧ ∀ v, o.data ≠ .cell v) : Inv X (pins ++ pinsAt fp s.heap) σ H s :=
  I.pins_of fun p hp => (List.mem_append.mp hp).elim (fun z => I.pin p (List.mem_append_right _ z)) fun z => by
    obtain ⟨hb, e⟩ := of_pinsAt z
    obtain ⟨f0, f1, f2, _⟩ := hf p.1 hb
    obtain ⟨o, e', d⟩ := ho p.1 hb
    rw [e] at e'; cases e'
    exact ⟨e, f0, f1, f2, d⟩
theorem Inv.unpinned {pins pl : List (Addr × Obj)} {σ : St} {H : Hp} {s : Shared} (I : Inv X (pins ++ pl) σ H s) : Inv X pins σ H s := I.pins_of fun p hp => I.pin p (List.mem_append_right _ (List.mem_append_left _ hp))
theorem ps_for {iter : Expr} {body : List Stmt} {wi : TI} {g : TG} {tb : TS} {pos : Pos} (hp : PassesOwn (model X.prog X.w) X.A X.env X.xe) (hc : X.calm = true) (hi : PI X tg iter wi) (hg : PG X tg g) (hb : PSs X body tb)
    (hs : ∀ x, foldedSetIterable iter X.env x = pure x := by intro _; rfl) : PS X (.For tg iter body [] pos) (tFor wi g tb) := by
  intro pins s σ H D I h
  refine wpAny_For (thn (hi pins s σ H _ I h) fun v s1 h1 => thn h1 fun itv s2 h2 => ?_) hs
  obtain ⟨it, fp, tn, J, H2, e, I2, T, st2, f2, W, ⟨m0, w0⟩, turn⟩ := h2
  subst e
  -- what stays true of the iterator's objects through the loop
  have stat : ∀ {H' : Hp}, (∀ b ∈ fp, H' b = none) → ∀ b ∈ fp, FpOk X pins H' b := fun hn b hb => ⟨hn b hb, (f2 b hb).2⟩
  refine codeAny_forLoop_any (fun n s' => ∃ i σ' H', Inv X pins σ' H' s' ∧ tn i s'.heap ∧ (∀ b ∈ fp, H' b = none) ∧ W i n σ' H') ?_ m0 ⟨0, σ, H2, I2, st2, fun b hb => (f2 b hb).1, w0⟩
  rintro n s3 ⟨i, σ3, H3, I3, st3, fr3, w3⟩
  rcases turn i n σ3 H3 w3 with ⟨stop, qn⟩ | ⟨go, N, hN, step⟩
  · refine wpAny_passesOwn hp (thn (T.done X rfl rfl rfl hc i pins s3 σ3 H3 X.xe I3 (stat fr3) st3 stop) fun r s4 ⟨hr, I4⟩ => ?_)
    subst hr
    exact wpAny_execs_nil ⟨σ3, H3, I4, qn⟩
  · refine wpAny_passesOwn hp (thn (T.item X rfl rfl rfl hc i pins s3 σ3 H3 X.xe I3 (stat fr3) st3 go) fun r s4 ⟨u, hr, h4⟩ => ?_)
    subst hr
    refine wpAny_passesOwn hp (thn h4 fun _ s5 ⟨x, H5, I5, r5, y5, st5, fr5⟩ => ?_)
    have I5' := I5.pinned (stat fr5) (T.obj _ _ st5)
    refine wpAny_passesOwn hp (thn (hg _ s5 σ3 H5 x u _ I5' r5 (step x H5 y5)) fun _ s6 ⟨σ6, H6, I6, q6⟩ => ?_)
    refine wpAny_passesOwn hp (thn (hb _ s6 σ6 H6 _ I6 q6) fun f s7 q7 => ?_)
    have again : ∀ {σ7 : St} {H7 : Hp}, Inv X (pins ++ pinsAt fp s5.heap) σ7 H7 s7 → N σ7 H7 → ∃ m, m < n ∧ ∃ i σ' H', Inv X pins σ' H' s7 ∧ tn i s7.heap ∧ (∀ b ∈ fp, H' b = none) ∧ W i m σ' H' := fun {σ7 H7} I7 n7 => by
      obtain ⟨m', hm, w7⟩ := hN σ7 H7 n7
      refine ⟨m', hm, i + 1, σ7, H7, I7.unpinned, T.keep _ _ _ st5 fun b hb o e => (I7.pin (b, o) (List.mem_append_right _ (List.mem_append_right _ (mem_pinsAt hb e)))).1, fun b hb => ?_, w7⟩
      obtain ⟨o, e, d⟩ := T.obj _ _ st5 b hb
      exact (I7.pin (b, o) (List.mem_append_right _ (List.mem_append_right _ (mem_pinsAt hb e)))).2.1
    cases f with
    | next => obtain ⟨σ7, H7, I7, n7⟩ := q7; exact again I7 n7
    | cont => obtain ⟨σ7, H7, I7, n7⟩ := q7; exact again I7 n7
    | brk => obtain ⟨σ7, H7, I7, q7⟩ := q7; exact ⟨σ7, H7, I7.unpinned, q7⟩
    | ret v => obtain ⟨x7, σ7, H7, I7, r7, q7⟩ := q7; exact ⟨x7, σ7, H7, I7.unpinned, r7, q7⟩
end

/-! ### the forms one uses -/
/-- over a list that the body leaves as it is -/
theorem for_list {K : PySem.W.Frag} {a : Addr} {xs : List V} {g : TG} {tb : TS} {D : Ends} {σ : St} {H : Hp} (Pv : Nat → St → Hp → Prop) (h0 : Pv 0 σ H) (hl : ∀ i σ H, i ≤ xs.length → Pv i σ H → SqL K H a xs)
    (hs : ∀ i x σ H, xs[i]? = some x → Pv i σ H → g x σ H fun σ2 H2 => tb { D with nx := Pv (i + 1), ct := Pv (i + 1), bk := D.nx } σ2 H2) (hd : ∀ σ H, Pv xs.length σ H → D.nx σ H) :
    ∃ W : Nat → Nat → St → Hp → Prop, (∃ m, W 0 m σ H) ∧ ∀ i m σ H, W i m σ H →
      ((Itl K a).stop i H ∧ D.nx σ H) ∨ ((Itl K a).go i H ∧ ∃ N : St → Hp → Prop, (∀ σ' H', N σ' H' → ∃ m', m' < m ∧ W (i + 1) m' σ' H') ∧ ∀ x H', (Itl K a).yld i H x H' → g x σ H' fun σ2 H2 => tb { D with nx := N, ct := N, bk := D.nx } σ2 H2) := by
  refine ⟨fun i m σ H => m = xs.length - i ∧ i ≤ xs.length ∧ Pv i σ H, ⟨xs.length, by simp, Nat.zero_le _, h0⟩, ?_⟩
  rintro i m σ H ⟨rfl, hi, p⟩
  have q := hl i σ H hi p
  by_cases hlt : i < xs.length
  · refine .inr ⟨⟨xs, xs[i], q, by simp [hlt]⟩, Pv (i + 1), fun σ' H' p' => ⟨xs.length - (i + 1), by omega, rfl, hlt, p'⟩, fun x H' y => ?_⟩
    obtain ⟨e, y⟩ := y
    subst e
    exact hs i x σ _ (y xs q) p
  · have e : i = xs.length := by omega
    subst e
    exact .inl ⟨⟨xs, q, Nat.le_refl _⟩, hd σ H p⟩
theorem for_tup {K : PySem.W.Frag} {a : Addr} {xs : List V} {g : TG} {tb : TS} {D : Ends} {σ : St} {H : Hp} (Pv : Nat → St → Hp → Prop) (h0 : Pv 0 σ H) (hl : ∀ i σ H, i ≤ xs.length → Pv i σ H → SqT K H a xs)
    (hs : ∀ i x σ H, xs[i]? = some x → Pv i σ H → g x σ H fun σ2 H2 => tb { D with nx := Pv (i + 1), ct := Pv (i + 1), bk := D.nx } σ2 H2) (hd : ∀ σ H, Pv xs.length σ H → D.nx σ H) :
    ∃ W : Nat → Nat → St → Hp → Prop, (∃ m, W 0 m σ H) ∧ ∀ i m σ H, W i m σ H →
      ((Itt K a).stop i H ∧ D.nx σ H) ∨ ((Itt K a).go i H ∧ ∃ N : St → Hp → Prop, (∀ σ' H', N σ' H' → ∃ m', m' < m ∧ W (i + 1) m' σ' H') ∧ ∀ x H', (Itt K a).yld i H x H' → g x σ H' fun σ2 H2 => tb { D with nx := N, ct := N, bk := D.nx } σ2 H2) := by
  refine ⟨fun i m σ H => m = xs.length - i ∧ i ≤ xs.length ∧ Pv i σ H, ⟨xs.length, by simp, Nat.zero_le _, h0⟩, ?_⟩
  rintro i m σ H ⟨rfl, hi, p⟩
  have q := hl i σ H hi p
  by_cases hlt : i < xs.length
  · refine .inr ⟨⟨xs, xs[i], q, by simp [hlt]⟩, Pv (i + 1), fun σ' H' p' => ⟨xs.length - (i + 1), by omega, rfl, hlt, p'⟩, fun x H' y => ?_⟩
    obtain ⟨e, y⟩ := y
    subst e
    exact hs i x σ _ (y xs q) p
  · have e : i = xs.length := by omega
    subst e
    exact .inl ⟨⟨xs, q, Nat.le_refl _⟩, hd σ H p⟩
theorem for_range {lo : Int} {n : Nat} {g : TG} {tb : TS} {D : Ends} {σ : St} {H : Hp} (Pv : Nat → St → Hp → Prop) (h0 : Pv 0 σ H)
    (hs : ∀ i σ H, i < n → Pv i σ H → g (.int (lo + i)) σ H fun σ2 H2 => tb { D with nx := Pv (i + 1), ct := Pv (i + 1), bk := D.nx } σ2 H2) (hd : ∀ σ H, Pv n σ H → D.nx σ H) :
    ∃ W : Nat → Nat → St → Hp → Prop, (∃ m, W 0 m σ H) ∧ ∀ i m σ H, W i m σ H →
      ((Itr lo n).stop i H ∧ D.nx σ H) ∨ ((Itr lo n).go i H ∧ ∃ N : St → Hp → Prop, (∀ σ' H', N σ' H' → ∃ m', m' < m ∧ W (i + 1) m' σ' H') ∧ ∀ x H', (Itr lo n).yld i H x H' → g x σ H' fun σ2 H2 => tb { D with nx := N, ct := N, bk := D.nx } σ2 H2) := by
  refine ⟨fun i m σ H => m = n - i ∧ i ≤ n ∧ Pv i σ H, ⟨n, by simp, Nat.zero_le _, h0⟩, ?_⟩
  rintro i m σ H ⟨rfl, hi, p⟩
  by_cases hlt : i < n
  · refine .inr ⟨hlt, Pv (i + 1), fun σ' H' p' => ⟨n - (i + 1), by omega, rfl, hlt, p'⟩, fun x H' y => ?_⟩
    obtain ⟨e, y⟩ := y
    subst e y
    exact hs i σ _ hlt p
  · have e : i = n := by omega
    subst e
    exact .inl ⟨Nat.le_refl _, hd σ H p⟩
/-- while, by a word and a measure of the state -/
theorem while_by {c : TT} {tb : TS} {D : Ends} {σ : St} {H : Hp} (Pv : St → Hp → Prop) (μ : St → Hp → Nat) (h0 : Pv σ H)
    (hs : ∀ σ H, Pv σ H → c σ H fun b H1 => if b = true then tb { D with nx := fun σ' H' => Pv σ' H' ∧ μ σ' H' < μ σ H, ct := fun σ' H' => Pv σ' H' ∧ μ σ' H' < μ σ H, bk := D.nx } σ H1 else D.nx σ H1)
    (mono : ∀ σ H Q Q', (∀ b H1, Q b H1 → Q' b H1) → c σ H Q → c σ H Q') : tWhile c tb D σ H := by
  refine ⟨fun m σ H => m = μ σ H ∧ Pv σ H, ⟨_, rfl, h0⟩, ?_⟩
  rintro m σ H ⟨rfl, p⟩
  refine mono σ H _ _ (fun b H1 q => ?_) (hs σ H p)
  cases b with
  | true => exact ⟨_, fun σ' H' ⟨p', l⟩ => ⟨_, l, rfl, p'⟩, q⟩
  | false => exact q
end L2

namespace L2
open PySem PySem.Spec PyProof.Rows

abbrev R2 := V → V → Hp → VK → Prop
/-- a two-place operation on values: f is binaryOp op, inplaceOp op or compareOp op -/
def OpR (X : Cx) (f : Value → Value → Sem Value) (r : R2) : Prop :=
  ∀ (pins : List (Addr × Obj)) (s : Shared) (σ : St) (H : Hp) (x y : V) (v u : Value) (Q : VK), Inv X pins σ H s → RelV x v → RelV y u → r x y H Q →
    wpAny (model X.prog X.w) X.A (f v u) (EP X pins σ Q) X.xe s
/-- a one-place operation -/
def UnR (X : Cx) (f : Value → Sem Value) (r : V → Hp → VK → Prop) : Prop :=
  ∀ (pins : List (Addr × Obj)) (s : Shared) (σ : St) (H : Hp) (x : V) (v : Value) (Q : VK), Inv X pins σ H s → RelV x v → r x H Q →
    wpAny (model X.prog X.w) X.A (f v) (EP X pins σ Q) X.xe s
/-- a call of a value that is known (a builtin, a type) with values -/
def CallR (X : Cx) (f : Value) (r : List V → Hp → VK → Prop) : Prop :=
  ∀ (pins : List (Addr × Obj)) (s : Shared) (σ : St) (H : Hp) (xs : List V) (us : List Value) (Q : VK), Inv X pins σ H s → Vals xs us → r xs H Q →
    wpAny (model X.prog X.w) X.A (call f us) (EP X pins σ Q) X.xe s
def tOp (r : R2) (ta tb : TE) : TE := fun σ H Q => ta σ H fun x H1 => tb σ H1 fun y H2 => r x y H2 Q
def tUn (r : V → Hp → VK → Prop) (ta : TE) : TE := fun σ H Q => ta σ H fun x H1 => r x H1 Q
/-- ints in, under C, and a value out -/
def rI (C : Int → Int → Prop) (g : Int → Int → V) : R2 := fun x y H Q => ∃ i j, x = .int i ∧ y = .int j ∧ C i j ∧ Q (g i j) H
def rI0 (g : Int → Int → V) : R2 := fun x y H Q => ∃ i j, x = .int i ∧ y = .int j ∧ Q (g i j) H
def rU (g : Int → V) : V → Hp → VK → Prop := fun x H Q => ∃ i, x = .int i ∧ Q (g i) H

section
variable {X : Cx} {a b c : Expr} {ta tb tc : TE} {pos : Pos}

theorem binT (ha : PE X a ta) (hb : PE X b tb) {pins : List (Addr × Obj)} {s : Shared} {σ : St} {H : Hp} {R : V → V → Hp → Prop} (I : Inv X pins σ H s)
    (h : ta σ H fun x H1 => tb σ H1 fun y H2 => R x y H2) {Q : Value → Shared → Prop} {f : Value → Value → Sem Value}
    (hf : ∀ v u s2 x y H2, Inv X pins σ H2 s2 → RelV x v → RelV y u → R x y H2 → wpAny (model X.prog X.w) X.A (f v u) Q X.xe s2) :
    wpAny (model X.prog X.w) X.A (eval a X.env) (fun v s₁ => wpAny (model X.prog X.w) X.A (eval b X.env) (fun u s₂ => wpAny (model X.prog X.w) X.A (f v u) Q X.xe s₂) X.xe s₁) X.xe s := by
  refine thn (ha pins s σ H _ I h) fun v s1 ⟨x, H1, I1, r1, q1⟩ => ?_
  refine thn (hb pins s1 σ H1 _ I1 q1) fun u s2 ⟨y, H2, I2, r2, q2⟩ => ?_
  exact hf v u s2 x y H2 I2 r1 r2 q2

theorem pe_op {op : Operator} {r : R2} (ho : OpR X (binaryOp op) r) (ha : PE X a ta) (hb : PE X b tb) : PE X (.BinOp a op b pos) (tOp r ta tb) := by
  intro pins s σ H Q I h
  exact wpAny_BinOp (binT ha hb I h fun v u s2 x y H2 I2 rx ry q => ho pins s2 σ H2 x y v u Q I2 rx ry q)
theorem pe_un {op : UnaryOp} {r : V → Hp → VK → Prop} (ho : UnR X (unaryOp op) r) (ha : PE X a ta) : PE X (.UnaryOp op a pos) (tUn r ta) := by
  intro pins s σ H Q I h
  exact UnaryOp_ (thn (ha pins s σ H _ I h) fun v s1 ⟨x, H1, I1, r1, q1⟩ => ho pins s1 σ H1 x v Q I1 r1 q1)
/-! ### ints -/
theorem opI {f : Value → Value → Sem Value} {C : Int → Int → Prop} {g : Int → Int → Int}
    (rule : ∀ (i j : Int) (t u : Tok) (s : Shared) (Q : Value → Shared → Prop) (E : Value → Shared → Prop), C i j → Q (.int (g i j) s.toks) { s with toks := s.toks + 1 } → wpAny (model X.prog X.w) X.A (f (.int i t) (.int j u)) Q E s) :
    OpR X f (rI C fun i j => .int (g i j)) := by
  intro pins s σ H x y v u Q I rx ry h
  obtain ⟨i, j, rfl, rfl, hc, q⟩ := h
  obtain ⟨t, rfl⟩ := rx
  obtain ⟨t', rfl⟩ := ry
  exact rule i j t t' s _ _ hc ⟨.int (g i j), H, I.tok _, ⟨_, rfl⟩, q⟩
theorem opI0 {f : Value → Value → Sem Value} {g : Int → Int → Int}
    (rule : ∀ (i j : Int) (t u : Tok) (s : Shared) (Q : Value → Shared → Prop) (E : Value → Shared → Prop), Q (.int (g i j) s.toks) { s with toks := s.toks + 1 } → wpAny (model X.prog X.w) X.A (f (.int i t) (.int j u)) Q E s) :
    OpR X f (rI0 fun i j => .int (g i j)) := by
  intro pins s σ H x y v u Q I rx ry h
  obtain ⟨i, j, rfl, rfl, q⟩ := h
  obtain ⟨t, rfl⟩ := rx
  obtain ⟨t', rfl⟩ := ry
  exact rule i j t t' s _ _ ⟨.int (g i j), H, I.tok _, ⟨_, rfl⟩, q⟩
theorem opB0 {f : Value → Value → Sem Value} {g : Int → Int → Bool}
    (rule : ∀ (i j : Int) (t u : Tok) (s : Shared) (Q : Value → Shared → Prop) (E : Value → Shared → Prop), Q (.bool (g i j)) s → wpAny (model X.prog X.w) X.A (f (.int i t) (.int j u)) Q E s) :
    OpR X f (rI0 fun i j => .bl (g i j)) := by
  intro pins s σ H x y v u Q I rx ry h
  obtain ⟨i, j, rfl, rfl, q⟩ := h
  obtain ⟨t, rfl⟩ := rx
  obtain ⟨t', rfl⟩ := ry
  exact rule i j t t' s _ _ ⟨.bl (g i j), H, I, rfl, q⟩

def CMul (i j : Int) : Prop := (-(2 ^ 64) < i ∧ i < 2 ^ 64) ∨ (-(2 ^ 64) < j ∧ j < 2 ^ 64)
theorem CMul.ok {i j : Int} (h : CMul i j) : IntMulOk i j := by
  rcases h with ⟨h1, h2⟩ | ⟨h1, h2⟩
  · exact .of_left (intBits_le_64 h1 h2)
  · exact .of_right (intBits_le_64 h1 h2)
theorem two_pow_nn (k : Nat) : (0 : Int) ≤ 2 ^ k := by
  rw [two_pow_cast]
  exact Int.natCast_nonneg _

theorem op_add : OpR X (binaryOp .Add) (rI0 fun i j => .int (i + j)) := opI0 fun _ _ _ _ _ _ _ q => add_int q
theorem op_sub : OpR X (binaryOp .Sub) (rI0 fun i j => .int (i - j)) := opI0 fun _ _ _ _ _ _ _ q => sub_int q
theorem op_mul : OpR X (binaryOp .Mult) (rI CMul fun i j => .int (i * j)) := opI fun _ _ _ _ _ _ _ hc q => mul_int q hc.ok
/-- % by a positive divisor of any size -/
theorem op_mod : OpR X (binaryOp .Mod) (rI (fun _ j => 0 < j) fun i j => .int (i % j)) := opI fun i j _ _ _ _ _ hc q => by
  have h1 : (0 : Int) < j := hc
  exact mod_int' (by omega) (by rw [Int.fmod_eq_emod_of_nonneg i (by omega)]; exact q)
theorem op_shr : OpR X (binaryOp .RShift) (rI (fun _ j => 0 ≤ j) fun i j => .int (i / 2 ^ j.toNat)) := opI fun i j _ _ _ _ _ hc q =>
  rshift_int hc (by rw [Int.fdiv_eq_ediv_of_nonneg i (two_pow_nn _)]; exact q)
theorem op_and : OpR X (binaryOp .BitAnd) (rI0 fun i j => .int (Builtin.bitAnd i j)) := opI0 fun _ _ _ _ _ _ _ q => and_int q
theorem op_or : OpR X (binaryOp .BitOr) (rI0 fun i j => .int (Builtin.bitOr i j)) := opI0 fun _ _ _ _ _ _ _ q => or_int q
theorem op_xor : OpR X (binaryOp .BitXor) (rI0 fun i j => .int (Builtin.bitXor i j)) := opI0 fun _ _ _ _ _ _ _ q => xor_int q

theorem unI {f : Value → Sem Value} {g : Int → Int}
    (rule : ∀ (i : Int) (t : Tok) (s : Shared) (Q : Value → Shared → Prop) (E : Value → Shared → Prop), Q (.int (g i) s.toks) { s with toks := s.toks + 1 } → wpAny (model X.prog X.w) X.A (f (.int i t)) Q E s) :
    UnR X f (rU fun i => .int (g i)) := by
  intro pins s σ H x v Q I rx h
  obtain ⟨i, rfl, q⟩ := h
  obtain ⟨t, rfl⟩ := rx
  exact rule i t s _ _ ⟨.int (g i), H, I.tok _, ⟨_, rfl⟩, q⟩
theorem un_neg : UnR X (unaryOp .USub) (rU fun i => .int (-i)) := unI fun _ _ _ _ _ q => neg_int q
/-! ### bools among ints: n += (a < b) -/
end

/-! ### comparisons -/
/-- the scalars that == tells apart as data does -/
def scal : V → V → Bool
  | .non, .non => true | .non, .int _ => true | .int _, .non => true | .non, .bl _ => true | .bl _, .non => true | .non, .str _ => true | .str _, .non => true
  | .int _, .int _ => true | .bl _, .bl _ => true | .str _, .str _ => true | .byt _, .byt _ => true
  | .int _, .str _ => true | .str _, .int _ => true | .bl _, .str _ => true | .str _, .bl _ => true
  | _, _ => false
def rEq : R2 := fun x y H Q => scal x y = true ∧ Q (.bl (decide (x = y))) H
def rNe : R2 := fun x y H Q => scal x y = true ∧ Q (.bl (!decide (x = y))) H

theorem dec_int {i j : Int} : decide (V.int i = V.int j) = (i == j) := by
  rw [Bool.eq_iff_iff]
  simp
theorem dec_bl {i j : Bool} : decide (V.bl i = V.bl j) = (i == j) := by
  rw [Bool.eq_iff_iff]
  simp
theorem dec_str {i j : Str} : decide (V.str i = V.str j) = (i == j) := by
  rw [Bool.eq_iff_iff]
  simp
theorem dec_byt {i j : Array UInt8} : decide (V.byt i = V.byt j) = (i.toList == j.toList) := by
  rw [Bool.eq_iff_iff]
  cases i
  cases j
  simp

section
variable {X : Cx} {a b c : Expr} {ta tb tc : TE} {pos : Pos}
theorem fin_bl {pins : List (Addr × Obj)} {σ : St} {H : Hp} {s : Shared} {Q : VK} {k k' : Bool} (I : Inv X pins σ H s) (q : Q (.bl k) H) (e : k = k') : EP X pins σ Q (.bool k') s := by
  subst e
  exact ⟨.bl k, H, I, rfl, q⟩
theorem op_eq : OpR X (compareOp .Eq) rEq := by
  intro pins s σ H x y v u Q I rx ry h
  obtain ⟨hs, q⟩ := h
  cases x with
  | non =>
    cases rx
    cases y with
    | non => cases ry; exact PySem.EqNone.eq_none_none (fin_bl I q (by simp))
    | bl j => cases ry; exact PySem.EqNone.eq_none_bool (fin_bl I q (by simp))
    | int j => obtain ⟨t', rfl⟩ := ry; exact PySem.EqNone.eq_none_int (fin_bl I q (by simp))
    | str j => obtain ⟨t', rfl⟩ := ry; exact PySem.EqNone.eq_none_str (fin_bl I q (by simp))
    | _ => exact absurd (show false = true from hs) Bool.false_ne_true
  | bl i =>
    cases rx
    cases y with
    | non => cases ry; exact PySem.EqNone.eq_bool_none (fin_bl I q (by simp))
    | bl j => cases ry; exact eq_bool (fin_bl I q dec_bl)
    | str j => obtain ⟨t', rfl⟩ := ry; exact PySem.EqMixed.eq_bool_str (fin_bl I q (by simp))
    | _ => exact absurd (show false = true from hs) Bool.false_ne_true
  | int i =>
    obtain ⟨t, rfl⟩ := rx
    cases y with
    | non => cases ry; exact PySem.EqNone.eq_int_none (fin_bl I q (by simp))
    | int j => obtain ⟨t', rfl⟩ := ry; exact eq_int (fin_bl I q dec_int)
    | str j => obtain ⟨t', rfl⟩ := ry; exact PySem.EqMixed.eq_int_str (fin_bl I q (by simp))
    | _ => exact absurd (show false = true from hs) Bool.false_ne_true
  | str i =>
    obtain ⟨t, rfl⟩ := rx
    cases y with
    | non => cases ry; exact PySem.EqNone.eq_str_none (fin_bl I q (by simp))
    | bl j => cases ry; exact PySem.EqMixed.eq_str_bool (fin_bl I q (by simp))
    | int j => obtain ⟨t', rfl⟩ := ry; exact PySem.EqMixed.eq_str_int (fin_bl I q (by simp))
    | str j => obtain ⟨t', rfl⟩ := ry; exact eq_str (fin_bl I q dec_str)
    | _ => exact absurd (show false = true from hs) Bool.false_ne_true
  | byt i =>
    obtain ⟨t, rfl⟩ := rx
    cases y with
    | byt j => obtain ⟨t', rfl⟩ := ry; exact PySem.W.eq_bytes (fin_bl I q dec_byt)
    | _ => exact absurd (show false = true from hs) Bool.false_ne_true
  | _ => cases y <;> exact absurd (show false = true from hs) Bool.false_ne_true
theorem op_ne : OpR X (compareOp .NotEq) rNe := by
  intro pins s σ H x y v u Q I rx ry h
  obtain ⟨hs, q⟩ := h
  cases x with
  | non =>
    cases rx
    cases y with
    | non => cases ry; exact PySem.EqNone.ne_none_none (fin_bl I q (by simp))
    | bl j => cases ry; exact PySem.EqNone.ne_none_bool (fin_bl I q (by simp))
    | int j => obtain ⟨t', rfl⟩ := ry; exact PySem.EqNone.ne_none_int (fin_bl I q (by simp))
    | str j => obtain ⟨t', rfl⟩ := ry; exact PySem.EqNone.ne_none_str (fin_bl I q (by simp))
    | _ => exact absurd (show false = true from hs) Bool.false_ne_true
  | bl i =>
    cases rx
    cases y with
    | non => cases ry; exact PySem.EqNone.ne_bool_none (fin_bl I q (by simp))
    | bl j => cases ry; exact ne_bool (fin_bl I q (congrArg not dec_bl))
    | str j => obtain ⟨t', rfl⟩ := ry; exact PySem.EqMixed.ne_bool_str (fin_bl I q (by simp))
    | _ => exact absurd (show false = true from hs) Bool.false_ne_true
  | int i =>
    obtain ⟨t, rfl⟩ := rx
    cases y with
    | non => cases ry; exact PySem.EqNone.ne_int_none (fin_bl I q (by simp))
    | int j => obtain ⟨t', rfl⟩ := ry; exact ne_int (fin_bl I q (congrArg not dec_int))
    | str j => obtain ⟨t', rfl⟩ := ry; exact PySem.EqMixed.ne_int_str (fin_bl I q (by simp))
    | _ => exact absurd (show false = true from hs) Bool.false_ne_true
  | str i =>
    obtain ⟨t, rfl⟩ := rx
    cases y with
    | non => cases ry; exact PySem.EqNone.ne_str_none (fin_bl I q (by simp))
    | bl j => cases ry; exact PySem.EqMixed.ne_str_bool (fin_bl I q (by simp))
    | int j => obtain ⟨t', rfl⟩ := ry; exact PySem.EqMixed.ne_str_int (fin_bl I q (by simp))
    | str j => obtain ⟨t', rfl⟩ := ry; exact ne_str (fin_bl I q (congrArg not dec_str))
    | _ => exact absurd (show false = true from hs) Bool.false_ne_true
  | byt i =>
    obtain ⟨t, rfl⟩ := rx
    cases y with
    | byt j => obtain ⟨t', rfl⟩ := ry; exact PySem.W.ne_bytes (fin_bl I q (congrArg not dec_byt))
    | _ => exact absurd (show false = true from hs) Bool.false_ne_true
  | _ => cases y <;> exact absurd (show false = true from hs) Bool.false_ne_true

theorem op_lt : OpR X (compareOp .Lt) (rI0 fun i j => .bl (decide (i < j))) := opB0 fun _ _ _ _ _ _ _ q => lt_int q
theorem op_le : OpR X (compareOp .LtE) (rI0 fun i j => .bl (decide (i ≤ j))) := opB0 fun _ _ _ _ _ _ _ q => le_int q
theorem op_gt : OpR X (compareOp .Gt) (rI0 fun i j => .bl (decide (j < i))) := opB0 fun _ _ _ _ _ _ _ q => gt_int q
theorem op_ge : OpR X (compareOp .GtE) (rI0 fun i j => .bl (decide (j ≤ i))) := opB0 fun _ _ _ _ _ _ _ q => ge_int q
/-- is None, is not None: the right side a value none -/
theorem op_isN : OpR X (compareOp .Is) (fun x y H Q => y = .non ∧ Q (.bl (decide (x = .non))) H) := by
  intro pins s σ H x y v u Q I rx ry h
  obtain ⟨rfl, q⟩ := h
  cases ry
  refine is_none_gen (fin_bl I q ?_)
  cases x <;> first
    | (cases rx; rfl)
    | (obtain ⟨t, rfl⟩ := rx; rfl)
theorem op_notN : OpR X (compareOp .IsNot) (fun x y H Q => y = .non ∧ Q (.bl (!decide (x = .non))) H) := by
  intro pins s σ H x y v u Q I rx ry h
  obtain ⟨rfl, q⟩ := h
  cases ry
  refine isnot_none_gen (fin_bl I q ?_)
  cases x <;> first
    | (cases rx; rfl)
    | (obtain ⟨t, rfl⟩ := rx; rfl)

theorem nomark (b : Expr) {op : CmpOp} (h : op ≠ .In := by decide) (h2 : op ≠ .NotIn := by decide) : behindInMarks op b = false := by
  have e1 : (op == CmpOp.In) = false := by cases op <;> first | rfl | exact absurd rfl h
  have e2 : (op == CmpOp.NotIn) = false := by cases op <;> first | rfl | exact absurd rfl h2
  cases b <;> simp [behindInMarks, e1, e2]
/-- a comparison as a value; hm: nomark b, or (for in, not in) by with_unfolding_all rfl -/
theorem pe_cmpR {op : CmpOp} {r : R2} (ho : OpR X (compareOp op) r) (ha : PE X a ta) (hb : PE X b tb) (hm : behindInMarks op b = false) : PE X (.Compare a [op] [b] pos) (tOp r ta tb) := by
  intro pins s σ H Q I h
  exact wpAny_Compare1 (binT ha hb I h fun v u s2 x y H2 I2 rx ry q => ho pins s2 σ H2 x y v u Q I2 rx ry q) hm
/-- a reading of a value as a test -/
def tTest (t : TE) : TT := fun σ H Q => t σ H fun x H' => ∃ k, x = .bl k ∧ Q k H'
theorem pt_cmpR {op : CmpOp} {r : R2} (ho : OpR X (compareOp op) r) (ha : PE X a ta) (hb : PE X b tb) (hm : behindInMarks op b = false) : PT X (.Compare a [op] [b] pos) (tTest (tOp r ta tb)) := by
  intro pins s σ H Q I h
  refine wpAny_isTrue_Compare1 (thn (ha pins s σ H _ I h) fun v s1 ⟨x, H1, I1, r1, q1⟩ => thn (hb pins s1 σ H1 _ I1 q1) fun u s2 ⟨y, H2, I2, r2, q2⟩ =>
    thn (ho pins s2 σ H2 x y v u _ I2 r1 r2 q2) fun c s3 ⟨z, H3, I3, r3, k, e, q3⟩ => ?_) hm
  subst e
  cases r3
  exact wpAny_truthy_bool ⟨H3, I3, q3⟩
/-- a op1 b op2 c -/
def tChain (r r' : R2) (ta tb tc : TE) : TE := fun σ H Q => ta σ H fun x H1 => tb σ H1 fun y H2 => r x y H2 fun z H3 => ∃ k, z = .bl k ∧
  (if k = true then tc σ H3 fun w' H4 => r' y w' H4 Q else Q (.bl false) H3)
theorem pt_chain {op op' : CmpOp} {r r' : R2} (ho : OpR X (compareOp op) r) (ho' : OpR X (compareOp op') r') (ha : PE X a ta) (hb : PE X b tb) (hc : PE X c tc)
    (hm : lastMarks [op, op'] [b, c] = false := by with_unfolding_all rfl) : PT X (.Compare a [op, op'] [b, c] pos) (tTest (tChain r r' ta tb tc)) := by
  intro pins s σ H Q I h
  refine isTrue_chain (thn (ha pins s σ H _ I h) fun v s1 ⟨x, H1, I1, r1, q1⟩ => test_link (thn (hb pins s1 σ H1 _ I1 q1) fun u s2 ⟨y, H2, I2, r2, q2⟩ =>
    thn (ho pins s2 σ H2 x y v u _ I2 r1 r2 q2) fun d s3 ⟨z, H3, I3, r3, k, e, q3⟩ => ?_)) hm
  subst e
  cases r3
  refine wpAny_truthy_bool ?_
  cases k with
  | false =>
    obtain ⟨k', e', q'⟩ := q3
    cases e'
    exact ite_ff ⟨H3, I3, q'⟩
  | true =>
    refine ite_tt (test_last (thn (hc pins s3 σ H3 _ I3 q3) fun w' s4 ⟨z', H4, I4, r4, q4⟩ => thn (ho' pins s4 σ H4 y z' u w' _ I4 r2 r4 q4) fun d' s5 ⟨z2, H5, I5, r5, k2, e2, q5⟩ => ?_))
    subst e2
    cases r5
    exact wpAny_truthy_bool ⟨H5, I5, q5⟩

/-! ### truth -/
theorem line63 : (sizeLine : Nat) < 2 ^ 63 := by rw [sizeLine_eq]; decide
/-! ### strs and bytes -/
/-! ### scalar builtins, by CallR -/
theorem vals1 {x : V} {us : List Value} (r : Vals [x] us) : ∃ u, us = [u] ∧ RelV x u := by
  cases r with
  | cons r1 r2 => cases r2; exact ⟨_, rfl, r1⟩
theorem vals2 {x y : V} {us : List Value} (r : Vals [x, y] us) : ∃ u w', us = [u, w'] ∧ RelV x u ∧ RelV y w' := by
  cases r with
  | cons r1 r2 =>
    cases r2 with
    | cons r3 r4 => cases r4; exact ⟨_, _, rfl, r1, r3⟩
theorem call_abs : CallR X (.builtin "abs") (fun xs H Q => ∃ i, xs = [.int i] ∧ Q (.int (if i < 0 then -i else i)) H) := by
  intro pins s σ H xs us Q I r h
  obtain ⟨i, rfl, q⟩ := h
  obtain ⟨u, rfl, t, rfl⟩ := vals1 r
  exact call_abs_int fun u tk => ⟨.int (if i < 0 then -i else i), H, I.tok _, ⟨_, rfl⟩, q⟩
theorem call_max2 (hc : X.calm = true) : CallR X (.builtin "max") (fun xs H Q => ∃ i j, xs = [.int i, .int j] ∧ Q (.int (if j > i then j else i)) H) := by
  intro pins s σ H xs us Q I r h
  obtain ⟨i, j, rfl, q⟩ := h
  obtain ⟨u, w', rfl, ⟨t, rfl⟩, ⟨t', rfl⟩⟩ := vals2 r
  refine max_two_ints (I.ok.hd hc) fun h' tk k => ⟨_, H, I.kept k, ?_, q⟩
  by_cases hj : j > i
  · rw [if_pos hj, if_pos hj]; exact ⟨_, rfl⟩
  · rw [if_neg hj, if_neg hj]; exact ⟨_, rfl⟩
theorem call_ord : CallR X (.builtin "ord") (fun xs H Q => ∃ x, xs = [.str x] ∧ x.length = 1 ∧ Q (.int (x.cps.getD 0 0 : Nat)) H) := by
  intro pins s σ H xs us Q I r h
  obtain ⟨x, rfl, hz, q⟩ := h
  obtain ⟨u, rfl, t, rfl⟩ := vals1 r
  exact ord_of_one hz ⟨.int _, H, I.tok _, ⟨_, rfl⟩, q⟩
end
end L2

namespace L2
open PySem PySem.Spec PyProof.Rows

/-! ### an instance, its attributes a map -/
structure ObjM (h : Heap) (x dx C : Addr) (mA : Str → Option Value) : Prop where
  obj : h.get? x = some (PySem.W.instObj C dx)
  ns : h.Ns1 dx mA
  ne : dx ≠ x

theorem lookIn_ns {h : Heap} {dx : Addr} {mA : Str → Option Value} (n : h.Ns1 dx mA) : ∃ od, h.get? dx = some od ∧ ∀ name, PySem.W.lookIn name od = some (mA name) := by
  obtain ⟨o, es, ep, ho, hd, hk, _, hm⟩ := n
  refine ⟨o, ho, fun name => ?_⟩
  have e := hm name
  unfold nsFind findBy at e
  rw [← Array.find?_toList] at e
  unfold PySem.W.lookIn
  rw [hd]
  dsimp only
  split
  · rename_i y q
    rw [q] at e
    exact congrArg some e
  · rename_i q
    rw [q] at e
    have a : es.toList.any (·.refKey) = false := by
      rw [List.any_eq_false]
      intro y hy
      obtain ⟨z, t, hkey⟩ := hk y (Array.mem_toList_iff.mp hy)
      simp [DictEntry.refKey, hkey]
    have a' : ¬ es.toList.any (·.refKey) = true := by rw [a]; exact Bool.false_ne_true
    rw [if_neg a']
    exact congrArg some e

theorem ObjM.look {h : Heap} {x dx C : Addr} {mA : Str → Option Value} (I : ObjM h x dx C mA) : ∃ od, PySem.W.InstAt h x (PySem.W.instObj C dx) C (some od) ∧ ∀ name, PySem.W.lookIn name od = some (mA name) :=
  let ⟨od, ho, hl⟩ := lookIn_ns I.ns
  ⟨od, ⟨I.obj, rfl, rfl, ho⟩, hl⟩

section
variable {prog : Program} {w : World} {A : Around} {E : Value → Shared → Prop} {s : Shared} {K : PySem.W.Frag} {x dx C f : Addr} {mA : Str → Option Value} {name : Str} {v : Value}

theorem get_map {expr : Bool} {Q : Value → Shared → Prop} (X : K.In s.heap) (I : ObjM s.heap x dx C mA) (hg : PySem.W.plainGet K C name = true) (hh : PySem.W.hasDictIn K C = true)
    (ha : PySem.W.findIn K (.ref C) name = some none) (hv : mA name = some v) (hv' : PySem.W.handedIn v = true) (h : Q v { s with toks := s.toks + 1 }) :
    wpAny (model prog w) A (getAttr (.ref x) name expr) Q E s := by
  obtain ⟨od, J, hl⟩ := I.look
  exact PySem.W.get_value X J (PySem.W.plainGet_of hg).1 (PySem.W.findObj_own hh ha rfl (by rw [hl, hv])) hv' h

theorem get_meth {pl : Sem Bool} {Q : Value × List Value → Shared → Prop} (X : K.In s.heap) (I : ObjM s.heap x dx C mA) (hg : PySem.W.plainGet K C name = true)
    (hf : PySem.W.findIn K (.ref C) name = some (some (.ref f))) (ht : PySem.W.isFn K (.ref f) = true) (hv : mA name = none) (h : Q (.ref f, [.ref x]) s) :
    wpAny (model prog w) A (getMethod (.ref x) name pl) Q E s := by
  obtain ⟨od, J, hl⟩ := I.look
  exact PySem.W.method_fn X J (PySem.W.plainGet_of hg).1 (PySem.W.plainGet_of hg).2 hf (beq_iff_eq.mp ht) (by show (PySem.W.lookIn name od).map (·.isSome) = some false; rw [hl, hv]; rfl) h

theorem set_map {ns : List Str} {Q : Unit → Shared → Prop} (X : K.In s.heap) (I : ObjM s.heap x dx C mA)
    (hs : PySem.W.findIn K (.ref C) "__setattr__" = some (some (.builtin "object.__setattr__"))) (hp : PySem.W.plainOver K C = true) (ht : PySem.W.takerIn K C name = some none) (hh : PySem.W.hasDictIn K C = true)
    (hw : PySem.Within mA ns) (hsz : ns.length ≤ sizeLine)
    (h : ∀ h', ObjM h' x dx C (fun y => if y = name then some v else mA y) → Heap.SameBut dx s.heap h' → Q () { s with heap := h', toks := s.toks + 2 }) :
    wpAny (model prog w) A (setAttr (.ref x) name v) Q E s := by
  obtain ⟨od, J, hl⟩ := I.look
  refine PySem.W.set_plain X J hs (PySem.W.osa_open (s := { s with toks := s.toks + 1 }) (r := none) X J hp ht fun b => ?_)
  obtain ⟨cd, hc, hd'⟩ := PySem.W.any_some hh
  have hx : s.heap.get? x = some ⟨.ref C, some dx, .plain, #[]⟩ := I.obj
  refine wpAny_bind (wpAny_pure (wpAny_bind (wpAny_bind (wpAny_loadPart hx (wpAny_bind (PySem.W.Looks.here (s := { s with toks := s.toks + 1 }) (PySem.W.looks_clsIn X hc) ?_))))))
  rw [hd']
  refine wpAny_pure (a := some dx) (wpAny_bind (wpAny_pure (wpAny_bind ?_)))
  refine wpAny_nsSet1 (s := { s with toks := s.toks + 1 }) I.ns fun h' hn2 hs2 => ?_
  obtain ⟨oD, esD, epD, hoD, hdD, hcD⟩ := hn2.count (PySem.Within.cons name v hw)
  refine wpAny_bind (wpAny_lookBehind hoD (by rw [hdD]; exact pastItsLine_dict (Nat.le_trans hcD (by rw [List.length_cons]; omega))) ?_)
  exact wpAny_pure (h _ ⟨(hs2.2 _ (Ne.symm I.ne)).trans I.obj, hn2, I.ne⟩ hs2)

/-- C(..): the dict at the heap's end, the instance behind it; then its __init__ -/
theorem make_map {R : Result → Shared → Prop} {vs : List Value} {kw : List (Str × Value)} (X : K.In s.heap) (hm : PySem.W.makesIn K C = true)
    (hi : PySem.W.findIn K (.ref C) "__init__" = some (some (.ref f))) (hf : PySem.W.typeIn K (.ref f) = some (.type "function"))
    (h : codeAny (model prog w) (A.under (.builtin "type.__call__" ⟨.ref C :: vs, kw⟩)) (.call (.ref f) ⟨.ref (s.heap.objs.size + 1) :: vs, kw⟩) (PySem.W.InitBack (s.heap.objs.size + 1) R)
      { s with heap := (s.heap.push PySem.W.emptyDict).push (PySem.W.instObj C s.heap.objs.size) }) :
    codeAny (model prog w) A (.call (.ref C) ⟨vs, kw⟩) R s := by
  obtain ⟨hh, g, d, t, os⟩ := s
  exact PySem.W.make_core (PySem.W.makes_of X hm) (PySem.W.looks_findIn X hi) (fun self => PySem.W.bind_fn X self hf) (.inl rfl) h
end

/-! ### the attributes as a list of pairs -/
def putF (f : Str) (v : V) : List (Str × V) → List (Str × V)
  | [] => [(f, v)]
  | (g, x) :: r => if g = f then (g, v) :: r else (g, x) :: putF f v r
theorem lookup_putF (f g : Str) (v : V) : ∀ fs : List (Str × V), (putF f v fs).lookup g = if g = f then some v else fs.lookup g
  | [] => by
    show List.lookup g [(f, v)] = _
    by_cases h : g = f
    · have hb : (g == f) = true := beq_iff_eq.mpr h
      simp only [List.lookup, hb, if_pos h]
    · have hb : (g == f) = false := beq_eq_false_iff_ne.mpr h
      simp only [List.lookup, hb, if_neg h]
  | (k, x) :: r => by
    have ih := lookup_putF f g v r
    rw [show putF f v ((k, x) :: r) = (if k = f then (k, v) :: r else (k, x) :: putF f v r) from rfl]
    by_cases hk : k = f
    · rw [if_pos hk]
      by_cases h : g = k
      · have hb : (g == k) = true := beq_iff_eq.mpr h
        simp only [List.lookup, hb, if_pos (h.trans hk)]
      · have hb : (g == k) = false := beq_eq_false_iff_ne.mpr h
        simp only [List.lookup, hb, if_neg (fun e : g = f => h (e.trans hk.symm))]
    · rw [if_neg hk]
      by_cases h : g = k
      · have hb : (g == k) = true := beq_iff_eq.mpr h
        simp only [List.lookup, hb, if_neg (fun e : g = f => hk (h.symm.trans e))]
      · have hb : (g == k) = false := beq_eq_false_iff_ne.mpr h
        simp only [List.lookup, hb]
        exact ih
theorem keys_putF (f : Str) (v : V) : ∀ fs : List (Str × V), f ∈ (putF f v fs).map (·.1) ∧ ∀ g, g ∈ fs.map (·.1) → g ∈ (putF f v fs).map (·.1)
  | [] => ⟨by simp [putF], fun g h => by simp at h⟩
  | (k, x) :: r => by
    obtain ⟨i1, i2⟩ := keys_putF f v r
    rw [show putF f v ((k, x) :: r) = (if k = f then (k, v) :: r else (k, x) :: putF f v r) from rfl]
    by_cases hk : k = f
    · rw [if_pos hk]
      subst hk
      exact ⟨by simp, fun g h => by simpa using h⟩
    · rw [if_neg hk]
      refine ⟨?_, fun g h => ?_⟩
      · rw [List.map_cons]
        exact List.mem_cons_of_mem _ i1
      · rw [List.map_cons] at h ⊢
        rcases List.mem_cons.mp h with e | e
        · exact List.mem_cons.mpr (.inl e)
        · exact List.mem_cons_of_mem _ (i2 g e)
theorem length_putF (f : Str) (v : V) : ∀ fs : List (Str × V), (putF f v fs).length ≤ fs.length + 1
  | [] => by simp [putF]
  | (k, x) :: r => by
    have ih := length_putF f v r
    rw [show putF f v ((k, x) :: r) = (if k = f then (k, v) :: r else (k, x) :: putF f v r) from rfl]
    by_cases hk : k = f
    · rw [if_pos hk, List.length_cons, List.length_cons]; omega
    · rw [if_neg hk, List.length_cons, List.length_cons]; omega

theorem RelO.some_of {v : V} {o : Option Value} (r : RelO (some v) o) : ∃ u, o = some u ∧ RelV v u := by
  cases o with
  | none => exact (show False from r).elim
  | some u => exact ⟨u, rfl, r⟩
theorem RelO.none_of {o : Option Value} (r : RelO none o) : o = none := by
  cases o with
  | none => rfl
  | some u => exact (show False from r).elim
theorem handed_of {v : V} {u : Value} (r : RelV v u) : PySem.W.handedIn u = true := by
  cases v with
  | non => cases (show u = Value.none from r); rfl
  | bl b => cases (show u = Value.bool b from r); rfl
  | int i => obtain ⟨t, e⟩ := (show ∃ t, u = Value.int i t from r); cases e; rfl
  | str x => obtain ⟨t, e⟩ := (show ∃ t, u = Value.str x t from r); cases e; rfl
  | byt b => obtain ⟨t, e⟩ := (show ∃ t, u = Value.bytes b t from r); cases e; rfl
  | flt b => obtain ⟨t, e⟩ := (show ∃ t, u = Value.float b t from r); cases e; rfl
  | ref a => cases (show u = Value.ref a from r); rfl
  | ty n => cases (show u = Value.type n from r); rfl

section
variable {P : Program} {w : World} {H H' : Hp} {h h' : Heap} {a C dx : Addr} {fs fs' : List (Str × V)}
theorem ins_get (hok : HOk P w H h) (e : H a = some (.ins C dx fs)) : ∃ mA, ObjM h a dx C mA ∧ (∀ f, RelO (fs.lookup f) (mA f)) ∧ PySem.Within mA (fs.map (·.1)) ∧ fs.length ≤ 1000 ∧ H dx = some (.own a) := by
  obtain ⟨d, z, ne, ob, mA, n, r, q⟩ := (show ObjOk P w H h a (.ins C dx fs) from hok a _ e)
  exact ⟨mA, ⟨ob, n, ne⟩, r, q, z, d⟩
end

/-! ### what of the text a class must have -/
structure Cls (K : PySem.W.Frag) (C : Addr) : Prop where
  pg : PySem.W.plainGet K C Str.empty = true
  hd : PySem.W.hasDictIn K C = true
  po : PySem.W.plainOver K C = true
  sa : PySem.W.findIn K (.ref C) "__setattr__" = some (some (.builtin "object.__setattr__"))
theorem Cls.get {K : PySem.W.Frag} {C : Addr} (c : Cls K C) (f : Str) : PySem.W.plainGet K C f = true := c.pg
/-- no class of it has the name -/
def NoAttr (K : PySem.W.Frag) (C : Addr) (f : Str) : Prop := PySem.W.findIn K (.ref C) f = some none
theorem NoAttr.taker {K : PySem.W.Frag} {C : Addr} {f : Str} (n : NoAttr K C f) : PySem.W.takerIn K C f = some none := by
  unfold PySem.W.takerIn
  rw [show PySem.W.findIn K (.ref C) f = some none from n]
  rfl
/-- a method: a plain def of the class or of one above it -/
structure Meth (K : PySem.W.Frag) (C : Addr) (m : Str) (f : Addr) : Prop where
  at_ : PySem.W.findIn K (.ref C) m = some (some (.ref f))
  fn : PySem.W.isFn K (.ref f) = true
  kp : PySem.W.keepIn K (.ref f) = true

section
variable {X : Cx} {pins : List (Addr × Obj)} {σ : St} {H : Hp} {s : Shared} {a C dx : Addr} {fs : List (Str × V)} {f : Str} {v : V} {A : Around} {E : Value → Shared → Prop}

theorem getattr_ok {b : Bool} {Q : Value → Shared → Prop} (I : Inv X pins σ H s) (e : H a = some (.ins C dx fs)) (c : Cls X.K C) (n : NoAttr X.K C f) (l : fs.lookup f = some v)
    (h : ∀ u s', Inv X pins σ H s' → RelV v u → Q u s') : wpAny (model X.prog X.w) A (getAttr (.ref a) f b) Q E s := by
  obtain ⟨mA, O, r, _, _, _⟩ := ins_get I.hok e
  obtain ⟨u, hu, ru⟩ := RelO.some_of (v := v) (o := mA f) (by rw [← l]; exact r f)
  exact get_map I.kIn O (c.get f) c.hd n hu (handed_of ru) (h u _ (I.tok _) ru)

theorem getmeth_ok {m : Str} {g : Addr} {pl : Sem Bool} {Q : Value × List Value → Shared → Prop} (I : Inv X pins σ H s) (e : H a = some (.ins C dx fs)) (c : Cls X.K C) (k : Meth X.K C m g) (l : fs.lookup m = none)
    (h : Q (.ref g, [.ref a]) s) : wpAny (model X.prog X.w) A (getMethod (.ref a) m pl) Q E s := by
  obtain ⟨mA, O, r, _, _, _⟩ := ins_get I.hok e
  have hn : mA m = none := RelO.none_of (by rw [← l]; exact r m)
  exact get_meth I.kIn O (c.get m) k.at_ k.fn hn h

theorem setattr_ok {y : V} {u : Value} {Q : Unit → Shared → Prop} (I : Inv X pins σ H s) (e : H a = some (.ins C dx fs)) (c : Cls X.K C) (n : NoAttr X.K C f) (hl : fs.length < 1000) (ry : RelV y u)
    (h : ∀ s', Inv X pins σ (upd H a (.ins C dx (putF f y fs))) s' → Q () s') : wpAny (model X.prog X.w) A (setAttr (.ref a) f u) Q E s := by
  obtain ⟨mA, O, r, wi, _, ho⟩ := ins_get I.hok e
  have hz : (fs.map (·.1)).length ≤ sizeLine := by rw [List.length_map, sizeLine_eq]; omega
  refine set_map I.kIn O c.sa c.po n.taker c.hd wi hz fun h' O' sb => h _ ?_
  have hd : ∃ o, h'.get? dx = some o := let ⟨o, _, _, e', _⟩ := O'.ns; ⟨o, e'⟩
  refine I.write (x := a) (e := dx) (by rw [e]; exact True.intro) (.inr ho) (fun b q hb z => (sb.2 b hb).trans z) hd ?_
  refine ⟨by rw [upd_ne O.ne]; exact ho, ?_, O.ne, O'.obj, _, O'.ns, fun g => ?_, fun g hg => ?_⟩
  · have := length_putF f y fs; omega
  · show RelO ((putF f y fs).lookup g) (if g = f then some u else mA g)
    rw [lookup_putF]
    by_cases q : g = f
    · rw [if_pos q, if_pos q]; exact ry
    · rw [if_neg q, if_neg q]; exact r g
  · by_cases q : g = f
    · rw [q]; exact (keys_putF f y fs).1
    · refine (keys_putF f y fs).2 g (wi g fun z => hg ?_)
      show (if g = f then some u else mA g) = none
      rw [if_neg q]; exact z

/-- a new instance, tracked, without attributes -/
theorem Inv.made (I : Inv X pins σ H s) : Inv X pins σ (upd (upd H s.heap.objs.size (.own (s.heap.objs.size + 1))) (s.heap.objs.size + 1) (.ins C s.heap.objs.size []))
    { s with heap := (s.heap.push PySem.W.emptyDict).push (PySem.W.instObj C s.heap.objs.size) } := by
  have e1 : (s.heap.push PySem.W.emptyDict).get? s.heap.objs.size = some PySem.W.emptyDict := Heap.get?_push_size s.heap rfl
  have e2 : ((s.heap.push PySem.W.emptyDict).push (PySem.W.instObj C s.heap.objs.size)).get? (s.heap.objs.size + 1) = some (PySem.W.instObj C s.heap.objs.size) := by
    have := Heap.get?_push_size (s.heap.push PySem.W.emptyDict) (o := PySem.W.instObj C s.heap.objs.size) rfl
    rwa [Heap.size_push] at this
  have e3 : (s.heap.push PySem.W.emptyDict).Ns s.heap.objs.size (fun _ => none) := ⟨PySem.W.emptyDict, #[], _, e1, rfl, (fun e he => absurd he (by simp)), fun _ => rfl⟩
  have I1 := I.laid (a := s.heap.objs.size) (o := .own (s.heap.objs.size + 1)) (h' := s.heap.push PySem.W.emptyDict) (t' := s.toks) (fun b u q => Heap.get?_push_of_some _ q) (Nat.le_refl _) ⟨_, e1⟩
  refine I1.laid (a := s.heap.objs.size + 1) (o := .ins C s.heap.objs.size []) (t' := s.toks) (fun b u q => Heap.get?_push_of_some _ q) (Nat.le_of_eq (Heap.size_push _ _)) ?_
  have ne : s.heap.objs.size ≠ s.heap.objs.size + 1 := Nat.ne_of_lt (Nat.lt_succ_self _)
  refine ⟨by rw [upd_ne ne, upd_same], Nat.zero_le _, ne, e2, fun _ => none, (Heap.Ns1.of_empty e3).at fun o q => Heap.get?_push_of_some _ q, fun _ => True.intro, fun y hy => absurd rfl hy⟩

/-- e.f where nothing but the object is asked: through attributeBase (super) and the last hold -/
theorem attr_of {prog : Program} {w : World} {env : Env} {e : Expr} {f : Str} {pos : Pos} {s : Shared} {Q : Value → Shared → Prop} (hb : attributeBase e f env (eval e env) = eval e env)
    (h : wpAny (model prog w) A (eval e env) (fun o s₁ => wpAny (model prog w) A (getAttr o f true) Q E s₁) E s) : wpAny (model prog w) A (eval (.Attribute e f pos) env) Q E s :=
  Attribute_any_ h (by rw [arm_eval_Attribute, hb])
end

/-! ### readings and rules -/
/-- e.f, an attribute of the instance -/
def tFld (K : PySem.W.Frag) (ta : TE) (f : Str) : TE := fun σ H Q => ta σ H fun x H1 => ∃ a C dx fs v, x = .ref a ∧ H1 a = some (.ins C dx fs) ∧ Cls K C ∧ NoAttr K C f ∧ fs.lookup f = some v ∧ Q v H1
/-- e.f = value -/
def sFld (K : PySem.W.Frag) (ta tv : TE) (f : Str) : TS := fun D σ H => tv σ H fun y H1 => ta σ H1 fun x H2 => ∃ a C dx fs, x = .ref a ∧ H2 a = some (.ins C dx fs) ∧ Cls K C ∧ NoAttr K C f ∧ fs.length < 1000 ∧
  D.nx σ (upd H2 a (.ins C dx (putF f y fs)))
section
variable {X : Cx} {o e value : Expr} {f : Str} {pos pos' tpos : Pos} {ta tv : TE}
theorem pe_fld (he : PE X e ta) (hb : attributeBase e f X.env (eval e X.env) = eval e X.env) : PE X (.Attribute e f pos) (tFld X.K ta f) := by
  intro pins s σ H Q I h
  refine attr_of hb (thn (he pins s σ H _ I h) fun u s1 ⟨x, H1, I1, rx, a, C, dx, fs, v, ex, ea, c, n, l, q⟩ => ?_)
  subst ex
  obtain rfl : u = Value.ref a := rx
  exact getattr_ok I1 ea c n l fun u' s2 I2 ru => ⟨v, H1, I2, ru, q⟩
theorem ps_fld (ha : PE X o ta) (hv : PE X value tv) (hs : swapsWith value (some (.Attribute o f pos')) pos.line X.env = pure false) : PS X (.Assign [.Attribute o f pos'] value pos) (sFld X.K ta tv f) := by
  intro pins s σ H D I h
  refine plainObj_wpAny_Assign_Attribute (thn (hv pins s σ H _ I h) fun u s1 ⟨y, H1, I1, ry, q⟩ => thn (ha pins s1 σ H1 _ I1 q) fun ov s2 ⟨x, H2, I2, rx, a, C, dx, fs, ex, ea, c, n, l, q2⟩ => ?_) hs
  subst ex
  obtain rfl : ov = Value.ref a := rx
  exact setattr_ok I2 ea c n l ry fun s3 I3 => ⟨σ, _, I3, q2⟩
end

/-! ### isinstance -/
section
variable {X : Cx} {pins : List (Addr × Obj)} {σ : St} {H : Hp} {s : Shared} {A : Around} {E : Value → Shared → Prop} {Q : Value → Shared → Prop} {c : Value} {b : Bool}
end
end L2

namespace L2
open PySem PySem.Spec PyProof.Rows

/-! ### room -/
structure Room (k : Nat) (A : Around) : Prop where
  hd : A.handled = none
  dp : A.depth + 3 * k + 5 < recursionLimit
  un : A.units + 16 * k + 200 < cLine
theorem Room.mono {j k : Nat} {A : Around} (r : Room k A) (h : j ≤ k) : Room j A := ⟨r.hd, by have := r.dp; omega, by have := r.un; omega⟩
theorem Room.deeper {k : Nat} {A : Around} (r : Room (k + 1) A) (env : Env) : Room k (A.deeper env) :=
  ⟨r.hd, by have := r.dp; show A.depth + 1 + 3 * k + 5 < _; omega, by have := r.un; show A.units + 3 + 16 * k + 200 < _; omega⟩
theorem make_depth {A : Around} {C : Addr} {us : List Value} {kw : List (Str × Value)} : (A.under (.builtin "type.__call__" ⟨.ref C :: us, kw⟩)).depth = A.depth + 1 := by
  first | rfl | simp [Around.under, Code.weight, Code.isCreation, Code.isGuard, Code.isCaller, Code.frames, Code.isFrame, guardIds]
theorem make_units {A : Around} {C : Addr} {us : List Value} {kw : List (Str × Value)} : (A.under (.builtin "type.__call__" ⟨.ref C :: us, kw⟩)).units = A.units + 1 := by
  first | rfl | simp [Around.under, Code.cUnits, Code.frames, Code.isFrame]
theorem Room.make {k : Nat} {A : Around} (r : Room (k + 1) A) (C : Addr) (us : List Value) (kw : List (Str × Value)) : Room k (A.under (.builtin "type.__call__" ⟨.ref C :: us, kw⟩)) :=
  ⟨r.hd, by have := r.dp; rw [make_depth]; omega, by have := r.un; rw [make_units]; omega⟩
theorem Room.depth {k : Nat} {A : Around} (r : Room k A) : A.depth < recursionLimit := by have := r.dp; omega
theorem Room.units {k : Nat} {A : Around} (r : Room k A) : A.units + 64 < cLine := by have := r.un; omega
/-! ### argument lists and displays -/
def tNil : TA := fun _ H Q => Q [] H
def tCons (ta : TE) (tr : TA) : TA := fun σ H Q => ta σ H fun x H1 => tr σ H1 fun xs H2 => Q (x :: xs) H2
section
variable {X : Cx} {e : Expr} {es : List Expr} {te : TE} {t : TA} {pos : Pos}
theorem pa_nil : PA X [] tNil := fun _ _ _ _ H Q I h => Calls.spliced_nil ⟨[], H, I, .nil, h⟩
theorem pa_cons (ha : PE X e te) (hr : PA X es t) (hs : starEach (e :: es) X.env = (false, eval e X.env) :: starEach es X.env := by rfl) : PA X (e :: es) (tCons te t) := by
  intro pos pins s σ H Q I h
  rw [hs]
  show wpAny _ _ (spliced ((false, eval e X.env) :: backTo pos (starEach es X.env))) _ _ s
  refine Calls.spliced_cons (thn (ha pins s σ H _ I h) fun u s1 ⟨x, H1, I1, r1, q1⟩ => ?_)
  exact thn (hr pos pins s1 σ H1 _ I1 q1) fun us s2 ⟨xs, H2, I2, r2, q2⟩ => ⟨x :: xs, H2, I2, .cons r1 r2, q2⟩

/-- a tuple, a list of written items -/
def tTup (t : TA) : TE := fun σ H Q => t σ H fun xs H1 => xs.length ≤ sizeLine ∧ ∀ p, H1 p = none → Q (.ref p) (upd H1 p (.tup xs))
def tLst (t : TA) : TE := fun σ H Q => t σ H fun xs H1 => xs.length ≤ sizeLine ∧ ∀ p, H1 p = none → Q (.ref p) (upd H1 p (.lst xs))
theorem pe_tup {x1} (h : PA X es t) : PE X (.Tuple es x1 pos) (tTup t) := by
  intro pins s σ H Q I hq
  refine wpAny_Tuple_spliced (thn (h pos pins s σ H _ I hq) fun us s1 ⟨xs, H1, I1, r, z, q⟩ => ⟨by rw [← r.length]; exact z, ?_⟩)
  have hf : H1 s1.heap.objs.size = none := I1.hok.fresh (Nat.le_refl _)
  refine ⟨.ref s1.heap.objs.size, upd H1 s1.heap.objs.size (.tup xs), I1.laid (t' := s1.toks) (fun b u e => Heap.get?_push_of_some _ e) (Nat.le_refl _) ?_, rfl, q _ hf⟩
  exact ⟨z, us, r, ⟨_, Heap.get?_push_size _ rfl, rfl, _, rfl⟩⟩
theorem pe_lst (h : PA X es t) : PE X (.List es pos) (tLst t) := by
  intro pins s σ H Q I hq
  refine wpAny_List_spliced (thn (h pos pins s σ H _ I hq) fun us s1 ⟨xs, H1, I1, r, z, q⟩ => ⟨by rw [← r.length]; exact z, ?_⟩)
  have hf : H1 s1.heap.objs.size = none := I1.hok.fresh (Nat.le_refl _)
  refine ⟨.ref s1.heap.objs.size, upd H1 s1.heap.objs.size (.lst xs), I1.laid (t' := s1.toks) (fun b u e => Heap.get?_push_of_some _ e) (Nat.le_refl _) ?_, rfl, q _ hf⟩
  exact ⟨z, us, 0, r, Heap.get?_push_size _ rfl⟩
end

/-! ### what a def promises -/
/-- a def's promise: the bound arguments in the parameters' order, the heap, the wanted end, the wanted exception -/
abbrev Sp := List V → Hp → VK → XK → Prop
/-- how an exception lies behind a call (file 08 gives it): the callers' frames, abstract heap and state ahead of the call, the wish, the exception, the state -/
abbrev CXT := List Env → Hp → Shared → XK → Value → Shared → Prop

/-- the state at a call -/
structure Env0 (P : Program) (w : World) (K : PySem.W.Frag) (mg : Str → Option Value) (base : Heap) (A : Around) (outer : List Env) (s : Shared) (H : Hp) : Prop where
  frames : A.frames = some outer
  mod : Mod K mg base
  bs : ∀ b o, base.get? b = some o → s.heap.get? b = some o ∧ H b = none
  bsz : base.objs.size ≤ s.heap.objs.size
  funs : s.heap.FunFrames base outer
  frf : ∀ b ∈ frs outer, H b = none
  hok : HOk P w H s.heap
  bare : AllBare s.gens
/-- a call's end -/
def CE (outer : List Env) (P : Program) (w : World) (H : Hp) (s : Shared) (Q : VK) (u : Value) (s' : Shared) : Prop :=
  ∃ v H', s'.os = s.os ∧ AllBare s'.gens ∧ Un (frs outer) [] H H' s.heap s'.heap ∧ HOk P w H' s'.heap ∧ RelV v u ∧ Q v H'
def CR (CX : CXT) (outer : List Env) (P : Program) (w : World) (H : Hp) (s : Shared) (Q : VK) (E : XK) (r : Result) (s' : Shared) : Prop :=
  match r with
  | .ok (.ret u) => CE outer P w H s Q u s'
  | .ok _ => False
  | .error e => CX outer H s E e s'
structure FnOk (P : Program) (w : World) (K : PySem.W.Frag) (mg : Str → Option Value) (base : Heap) (CX : CXT) (k : Nat) (f : Addr) (fd : FuncData) (ps : List Str) (sp : Sp) : Prop where
  len : ∀ vs H Q E, sp vs H Q E → vs.length = ps.length
  run : ∀ (A : Around) (outer : List Env) (s : Shared) (H : Hp) (args : Args) (us : List Value) (vs : List V) (Q : VK) (E : XK), Room k A → Env0 P w K mg base A outer s H → BindsTo s fd args (ps.zip us) → Vals vs us → sp vs H Q E →
    codeAny (model P w) A (.call (.ref f) args) (CR CX outer P w H s Q E) s
theorem Env0.make {P : Program} {w : World} {K : PySem.W.Frag} {mg : Str → Option Value} {base : Heap} {A : Around} {outer : List Env} {s : Shared} {H : Hp} (e : Env0 P w K mg base A outer s H) (C : Addr) (us : List Value) (kw : List (Str × Value)) :
    Env0 P w K mg base (A.under (.builtin "type.__call__" ⟨.ref C :: us, kw⟩)) outer s H := ⟨by first | exact e.frames | (simpa [Around.under, Code.envs, Code.isFrame, pushEnvs] using e.frames), e.mod, e.bs, e.bsz, e.funs, e.frf, e.hok, e.bare⟩
section
variable {X : Cx} {pins : List (Addr × Obj)} {σ : St} {H : Hp} {s s' : Shared}
/-- from a body: what a callee wants -/
theorem Inv.env0 (I : Inv X pins σ H s) : Env0 X.prog X.w X.K X.mg X.base X.A X.stack s H :=
  ⟨I.ok.frames, I.ok.mod, I.bs, Nat.le_trans I.ok.bsz I.sz, I.stack, I.stkFree, I.hok, I.bare⟩
/-- behind a call -/
theorem Inv.after {Q : VK} {u : Value} (I : Inv X pins σ H s) (h : CE X.stack X.prog X.w H s Q u s') : EP X pins σ Q u s' := by
  obtain ⟨v, H', os, bare, un, hok, r, q⟩ := h
  obtain ⟨hh, g, d, t, os'⟩ := s'
  obtain rfl : os' = s.os := os
  exact ⟨v, H', I.call (h' := hh) (g' := g) (d' := d) (t' := t) (ch := []) un hok bare (fun b z => absurd z (by simp)), r, q⟩
end

/-! ### calls -/
/-- f(..): the written arguments, then the defaults dvs; E: what is wanted of an exception -/
def tCall (sp : Sp) (dvs : List V) (E : XK) (t : TA) : TE := fun σ H Q => t σ H fun vs H1 => sp (vs ++ dvs) H1 Q E
/-- o.m(..) of an instance of the class at C -/
def tMeth (C : Addr) (m : Str) (sp : Sp) (dvs : List V) (E : XK) (ta : TE) (t : TA) : TE := fun σ H Q => ta σ H fun x H1 => ∃ a dx fs, x = .ref a ∧ H1 a = some (.ins C dx fs) ∧ fs.lookup m = none ∧
  t σ H1 fun vs H2 => sp (x :: (vs ++ dvs)) H2 Q E
/-- C(..): a new instance and its dict, then __init__ -/
def tMake (C : Addr) (sp : Sp) (dvs : List V) (E : XK) (t : TA) : TE := fun σ H Q => t σ H fun vs H1 => ∀ x dx, H1 x = none → H1 dx = none → dx ≠ x →
  sp (.ref x :: (vs ++ dvs)) (upd (upd H1 dx (.own x)) x (.ins C dx [])) (fun v H2 => v = .non ∧ Q (.ref x) H2) E

/-- how the parameters are bound: us the positional arguments, kw the keywords' values by name, ds the defaults that fill up -/
def Binds (K : PySem.W.Frag) (fd : FuncData) (ps : List Str) (ds : List Value) : Prop :=
  ∀ (s : Shared) (us : List Value), K.In s.heap → (us ++ ds).length = ps.length → BindsTo s fd ⟨us, []⟩ (ps.zip (us ++ ds))
/-- every parameter is given -/
theorem Binds.all {K : PySem.W.Frag} {fd : FuncData} {ps : List Str} (h : ∀ us : List Value, us.length = ps.length → bindArgs fd ⟨us, []⟩ = pure (ps.zip us)) : Binds K fd ps [] := fun s us _ hl => by
  rw [List.append_nil] at hl ⊢
  exact .of_eq (h us hl)

/-- an exception of a callee reaches what this body wants of exceptions -/
def Passes (CX : CXT) (X : Cx) (E : XK) : Prop := ∀ (pins : List (Addr × Obj)) (σ : St) (H : Hp) (s : Shared) (e : Value) (s' : Shared), Inv X pins σ H s → CX X.stack H s E e s' → X.xe e s'

section
variable {X : Cx} {CX : CXT} {k : Nat} {f C : Addr} {fd : FuncData} {ps : List Str} {sp : Sp} {dvs : List V} {ds : List Value} {E : XK} {x m : Str} {p pos apos : Pos} {e o : Expr} {es : List Expr} {ta : TE} {t : TA}

/-- the callee runs -/
theorem run_fn {pins : List (Addr × Obj)} {σ : St} {H : Hp} {s : Shared} {Q : VK} {us : List Value} {vs : List V} (F : FnOk X.prog X.w X.K X.mg X.base CX k f fd ps sp) (hr : Room k X.A) (hb : Binds X.K fd ps ds) (hd : Vals dvs ds) (hx : Passes CX X E)
    (I : Inv X pins σ H s) (r : Vals vs us) (h : sp (vs ++ dvs) H Q E) : wpAny (model X.prog X.w) X.A (call (.ref f) us) (EP X pins σ Q) X.xe s := by
  have r2 : Vals (vs ++ dvs) (us ++ ds) := r.append hd
  have hl : (us ++ ds).length = ps.length := by rw [← r2.length]; exact F.len _ _ _ _ h
  refine wpAny_call (codeAny_mono (F.run X.A X.stack s H ⟨us, []⟩ (us ++ ds) (vs ++ dvs) Q E hr I.env0 (hb s us I.kIn hl) r2 h) fun r s' hq => ?_)
  cases r with
  | error e => exact hx pins σ H s e s' I hq
  | ok fl =>
    cases fl with
    | ret u => exact I.after hq
    | next => exact False.elim hq
    | brk => exact False.elim hq
    | cont => exact False.elim hq

theorem pe_call (F : FnOk X.prog X.w X.K X.mg X.base CX k f fd ps sp) (hr : Room k X.A) (hg : Gl X x) (hm : X.mg x = some (.ref f)) (hk : PySem.W.keepIn X.K (.ref f) = true) (hb : Binds X.K fd ps ds) (hd : Vals dvs ds) (hx : Passes CX X E)
    (ha : PA X (e :: es) t) (hdb : (x == ("__debug__" : Str)) = false := by decide) (he : starEach (e :: es) X.env = (false, eval e X.env) :: starEach es X.env := by rfl) (hpl : (backTo pos (starEach es X.env)).any (·.1) = false := by rfl) :
    PE X (.Call (.Name x p) (e :: es) [] pos) (tCall sp dvs E t) := by
  intro pins s σ H Q I h
  refine wpAny_Call_Name_kw (ld_glob I hg hm ?_ hdb)
  refine PySem.W.callWith_K (h₀ := X.base) I.ok.mod.kin hk (thn (ha pos pins s σ H _ I h) fun us s1 ⟨vs, H1, I1, r, q⟩ => ⟨I1.kIn, ?_⟩) he hpl
  exact run_fn F hr hb hd hx I1 r q
/-- o.m(e, ..) -/
theorem pe_meth {pl : Sem Bool} (he : PE X o ta) (c : Cls X.K C) (hm : Meth X.K C m f) (F : FnOk X.prog X.w X.K X.mg X.base CX k f fd ps sp) (hr : Room k X.A) (hb : Binds X.K fd ps ds) (hd : Vals dvs ds) (hx : Passes CX X E) (ha : PA X (e :: es) t)
    (hst : starEach (e :: es) X.env = (false, eval e X.env) :: starEach es X.env := by rfl) (hpl : (backTo pos (starEach es X.env)).any (·.1) = false := by rfl)
    (ht : eval (.Call (.Attribute o m apos) (e :: es) [] pos) X.env = (do
      let ov ← eval o X.env
      standAt apos.atName
      let (f, first) ← holding [ov] (getMethod ov m pl)
      callWith pos f first (backTo pos (starEach (e :: es) X.env)) (backToKw pos (keywordEach [] X.env))) := by rfl) :
    PE X (.Call (.Attribute o m apos) (e :: es) [] pos) (tMeth C m sp dvs E ta t) := by
  intro pins s σ H Q I h
  refine PySem.W.methodCall_KW (pl := pl) (thn (he pins s σ H _ I h) fun u s1 ⟨x, H1, I1, rx, a, dx, fs, ex, ea, l, q⟩ => ?_) ht
  subst ex
  obtain rfl : u = Value.ref a := rx
  refine getmeth_ok I1 ea c hm l ?_
  refine PySem.W.callWith_K (first := [.ref a]) (h₀ := X.base) I.ok.mod.kin hm.kp (thn (ha pos pins s1 σ H1 _ I1 q) fun us s2 ⟨vs, H2, I2, r, q2⟩ => ⟨I2.kIn, ?_⟩) hst hpl
  exact run_fn (us := .ref a :: us) (vs := .ref a :: vs) F hr hb hd hx I2 (.cons rfl r) q2
/-- o.m() -/
theorem pe_meth0 {pl : Sem Bool} (he : PE X o ta) (c : Cls X.K C) (hm : Meth X.K C m f) (F : FnOk X.prog X.w X.K X.mg X.base CX k f fd ps sp) (hr : Room k X.A) (hb : Binds X.K fd ps ds) (hd : Vals dvs ds) (hx : Passes CX X E)
    (ht : eval (.Call (.Attribute o m apos) [] [] pos) X.env = (do
      let ov ← eval o X.env
      standAt apos.atName
      let (f, first) ← holding [ov] (getMethod ov m pl)
      callWith pos f first (backTo pos (starEach [] X.env)) (backToKw pos (keywordEach [] X.env))) := by rfl) :
    PE X (.Call (.Attribute o m apos) [] [] pos) (tMeth C m sp dvs E ta tNil) := by
  intro pins s σ H Q I h
  refine PySem.W.methodCall_KW (pl := pl) (thn (he pins s σ H _ I h) fun u s1 ⟨x, H1, I1, rx, a, dx, fs, ex, ea, l, q⟩ => ?_) ht
  subst ex
  obtain rfl : u = Value.ref a := rx
  refine getmeth_ok I1 ea c hm l ?_
  exact PySem.W.callWith_K0 (first := [.ref a]) I1.kIn hm.kp (run_fn (us := [.ref a]) (vs := [.ref a]) F hr hb hd hx I1 (.cons rfl .nil) q)

/-- what a class must have to be made -/
structure Mk (K : PySem.W.Frag) (C f : Addr) : Prop where
  makes : PySem.W.makesIn K C = true
  init : PySem.W.findIn K (.ref C) "__init__" = some (some (.ref f))
  fn : PySem.W.isFn K (.ref f) = true
  kp : PySem.W.keepIn K (.ref C) = true

theorem run_make {pins : List (Addr × Obj)} {σ : St} {H : Hp} {s : Shared} {Q : VK} {us : List Value} {vs : List V} (M : Mk X.K C f) (F : FnOk X.prog X.w X.K X.mg X.base CX k f fd ps sp) (hr : Room (k + 1) X.A) (hb : Binds X.K fd ps ds) (hd : Vals dvs ds)
    (hx : Passes CX X E) (I : Inv X pins σ H s) (r : Vals vs us)
    (h : ∀ x dx, H x = none → H dx = none → dx ≠ x → sp (.ref x :: (vs ++ dvs)) (upd (upd H dx (.own x)) x (.ins C dx [])) (fun v H2 => v = .non ∧ Q (.ref x) H2) E) :
    wpAny (model X.prog X.w) X.A (call (.ref C) us) (EP X pins σ Q) X.xe s := by
  have hq := h (s.heap.objs.size + 1) s.heap.objs.size (I.hok.fresh (Nat.le_succ _)) (I.hok.fresh (Nat.le_refl _)) (Nat.ne_of_lt (Nat.lt_succ_self _))
  have I2 := Inv.made (C := C) I
  have r2 : Vals (V.ref (s.heap.objs.size + 1) :: (vs ++ dvs)) (Value.ref (s.heap.objs.size + 1) :: (us ++ ds)) := .cons rfl (r.append hd)
  have hl : (Value.ref (s.heap.objs.size + 1) :: us ++ ds).length = ps.length := by
    have e := r2.length
    rw [F.len _ _ _ _ hq] at e
    exact e.symm
  refine wpAny_call (make_map (f := f) I.kIn M.makes M.init (beq_iff_eq.mp M.fn) (codeAny_mono (F.run _ X.stack _ _ ⟨Value.ref (s.heap.objs.size + 1) :: us, []⟩ (Value.ref (s.heap.objs.size + 1) :: (us ++ ds)) _ _ E (hr.make C us [])
    (I2.env0.make C us []) (hb _ (Value.ref (s.heap.objs.size + 1) :: us) I2.kIn hl) r2 hq) fun r s' hq' => ?_))
  cases r with
  | error e => exact hx pins σ _ _ e s' I2 hq'
  | ok fl =>
    cases fl with
    | ret u =>
      obtain ⟨v, H', I3, rv, ev, q3⟩ := I2.after hq'
      subst ev
      exact ⟨rv, ⟨V.ref (s.heap.objs.size + 1), H', I3, rfl, q3⟩⟩
    | next => exact False.elim hq'
    | brk => exact False.elim hq'
    | cont => exact False.elim hq'
theorem pe_make (M : Mk X.K C f) (F : FnOk X.prog X.w X.K X.mg X.base CX k f fd ps sp) (hr : Room (k + 1) X.A) (hg : Gl X x) (hm : X.mg x = some (.ref C)) (hb : Binds X.K fd ps ds) (hd : Vals dvs ds) (hx : Passes CX X E)
    (ha : PA X (e :: es) t) (hdb : (x == ("__debug__" : Str)) = false := by decide) (he : starEach (e :: es) X.env = (false, eval e X.env) :: starEach es X.env := by rfl) (hpl : (backTo pos (starEach es X.env)).any (·.1) = false := by rfl) :
    PE X (.Call (.Name x p) (e :: es) [] pos) (tMake C sp dvs E t) := by
  intro pins s σ H Q I h
  refine wpAny_Call_Name_kw (ld_glob I hg hm ?_ hdb)
  refine PySem.W.callWith_K (h₀ := X.base) I.ok.mod.kin M.kp (thn (ha pos pins s σ H _ I h) fun us s1 ⟨vs, H1, I1, r, q⟩ => ⟨I1.kIn, ?_⟩) he hpl
  exact run_make M F hr hb hd hx I1 r q
theorem pe_make0 (M : Mk X.K C f) (F : FnOk X.prog X.w X.K X.mg X.base CX k f fd ps sp) (hr : Room (k + 1) X.A) (hg : Gl X x) (hm : X.mg x = some (.ref C)) (hb : Binds X.K fd ps ds) (hd : Vals dvs ds) (hx : Passes CX X E)
    (hdb : (x == ("__debug__" : Str)) = false := by decide) : PE X (.Call (.Name x p) [] [] pos) (tMake C sp dvs E tNil) := by
  intro pins s σ H Q I h
  refine wpAny_Call_Name_kw (ld_glob I hg hm ?_ hdb)
  exact PySem.W.callWith_K0 I.kIn M.kp (run_make (us := []) M F hr hb hd hx I .nil h)
end

/-! ### keywords -/
section
variable {X : Cx} {CX : CXT} {k : Nat} {f C : Addr} {fd : FuncData} {ps ks : List Str} {sp : Sp} {E : XK} {x m : Str} {p pos apos kpos : Pos} {e o : Expr} {es : List Expr} {kws : List Keyword} {te ta : TE} {t tk : TA} {nm : Option Str}
variable {g : List Value → List Value → List Value} {gV : List V → List V → List V}
end

/-! ### a def's body keeps its promise -/
/-- names: the parameters first -/
structure FnScope (N P : List Str) (sc : Scope) : Prop where
  kind : sc.kind = .function
  co : sc.isCoroutine = false
  gen : sc.isGenerator = false
  nd : N.Nodup
  pre : N.take P.length = P
  par : ∀ x ∈ P, sc.names.lookup x = some .local ∨ sc.names.lookup x = some .cell
  nofree : ∀ y ∈ sc.names, y.2 ≠ .free

theorem bindL_out {kindOf : Str → Option NameKind} {x : Str} : ∀ {binds : List (Str × Value)} {m : Str → Option Value}, (∀ v, (x, v) ∉ binds) → bindL kindOf binds m x = m x
  | [], _, _ => rfl
  | (n, v) :: r, m, h => by
    unfold bindL
    rw [bindL_out fun w hw => h w (List.mem_cons_of_mem _ hw)]
    split
    · have : x ≠ n := by rintro rfl; exact h v List.mem_cons_self
      simp [this]
    · rfl
theorem bindC_out {kindOf : Str → Option NameKind} {x : Str} : ∀ {binds : List (Str × Value)} {m : Str → Option Value}, (∀ v, (x, v) ∉ binds) → bindC kindOf binds m x = m x
  | [], _, _ => rfl
  | (n, v) :: r, m, h => by
    unfold bindC
    rw [bindC_out fun w hw => h w (List.mem_cons_of_mem _ hw)]
    split
    · rfl
    · have : x ≠ n := by rintro rfl; exact h v List.mem_cons_self
      simp [this]
theorem bindL_get {kindOf : Str → Option NameKind} {x : Str} {v : Value} : ∀ {P : List Str} {vs : List Value} {i : Nat} {m : Str → Option Value}, P.Nodup → P[i]? = some x → vs[i]? = some v → kindOf x = some .local →
    bindL kindOf (P.zip vs) m x = some v
  | [], _, _, _, _, h, _, _ => by simp at h
  | _ :: _, [], _, _, _, _, h, _ => by simp at h
  | p :: P, w :: vs, 0, m, nd, h1, h2, hk => by
    simp at h1 h2; subst h1; subst h2
    show bindL kindOf ((p, w) :: P.zip vs) m p = _
    unfold bindL
    rw [bindL_out fun v hv => (List.nodup_cons.mp nd).1 (List.of_mem_zip hv).1, if_pos hk]
    simp
  | p :: P, w :: vs, i + 1, m, nd, h1, h2, hk => by
    show bindL kindOf ((p, w) :: P.zip vs) m x = _
    unfold bindL
    exact bindL_get (i := i) (List.nodup_cons.mp nd).2 (by simpa using h1) (by simpa using h2) hk
theorem bindC_get {kindOf : Str → Option NameKind} {x : Str} {v : Value} : ∀ {P : List Str} {vs : List Value} {i : Nat} {m : Str → Option Value}, P.Nodup → P[i]? = some x → vs[i]? = some v → kindOf x ≠ some .local →
    bindC kindOf (P.zip vs) m x = some v
  | [], _, _, _, _, h, _, _ => by simp at h
  | _ :: _, [], _, _, _, _, h, _ => by simp at h
  | p :: P, w :: vs, 0, m, nd, h1, h2, hk => by
    simp at h1 h2; subst h1; subst h2
    show bindC kindOf ((p, w) :: P.zip vs) m p = _
    unfold bindC
    rw [bindC_out fun v hv => (List.nodup_cons.mp nd).1 (List.of_mem_zip hv).1, if_neg hk]
    simp
  | p :: P, w :: vs, i + 1, m, nd, h1, h2, hk => by
    show bindC kindOf ((p, w) :: P.zip vs) m x = _
    unfold bindC
    exact bindC_get (i := i) (List.nodup_cons.mp nd).2 (by simpa using h1) (by simpa using h2) hk

/-- the names' values at the entry -/
def start (N : List Str) (vs : List V) : St := vs.map some ++ List.replicate (N.length - vs.length) none

/-- the context of a def's body, at its entry; an exception leaves the frame, then lies as CX says -/
def cxOf (CX : CXT) (P : Program) (w : World) (K : PySem.W.Frag) (mg : Str → Option Value) (base : Heap) (N : List Str) (qual : Str) (scope : Scope) (f : Addr) (cd : Value) (A : Around) (outer : List Env) (s : Shared) (H : Hp) (E : XK) : Cx where
  prog := P
  w := w
  K := K
  mg := mg
  base := base
  A := A.deeper (envOfC qual scope s.heap.objs.size f cd)
  N := N
  s₀ := s
  H₀ := H
  env := envOfC qual scope s.heap.objs.size f cd
  outer := outer
  stack := envOfC qual scope s.heap.objs.size f cd :: outer
  ex := []
  calm := true
  fn := fun _ => true
  pn := []
  xe := fun e s' => wpAny (model P w) (A.deeper (envOfC qual scope s.heap.objs.size f cd)) (leaving (envOfC qual scope s.heap.objs.size f cd) e) (fun _ s'' => CX outer H s E e s'') (fun e' s'' => CX outer H s E e' s'') s'

theorem cell_has {sc : Scope} {n : Nat} {x : Str} (h : sc.names.lookup x = some .cell) : ∃ c, (cellsFrom n sc.names []).lookup x = some c := by
  have q := PySem.W.cellsFrom_some sc.names n [] (.inl h)
  exact Option.isSome_iff_exists.mp q

theorem inv_start {CX : CXT} {P : Program} {w : World} {K : PySem.W.Frag} {mg : Str → Option Value} {base : Heap} {N ps : List Str} {qual : Str} {scope : Scope} {f : Addr} {cd : Value} {A : Around} {outer : List Env} {s s1 : Shared} {H : Hp} {E : XK} {us : List Value} {vs : List V}
    (S : FnScope N ps scope) (hd : A.handled = none) (e0 : Env0 P w K mg base A outer s H) (hl : vs.length = ps.length) (r : Vals vs us)
    (x : InCallC s s.heap.objs.size (bindL (envOfC qual scope s.heap.objs.size f cd).kindOf (ps.zip us) fun _ => none) (cellsFrom (s.heap.objs.size + 1) scope.names []) (bindC (envOfC qual scope s.heap.objs.size f cd).kindOf (ps.zip us) fun _ => none) s1) :
    Inv (cxOf CX P w K mg base N qual scope f cd A outer s H E) [] (start N vs) H s1 := by
  have hpl : ps.length ≤ N.length := by have := congrArg List.length S.pre; rw [List.length_take] at this; omega
  obtain ⟨h1, tk, rfl, hk⟩ := x.done
  have noA : ∀ b : Addr, b ∉ (cxOf CX P w K mg base N qual scope f cd A outer s H E).ex := fun b z => absurd (show b ∈ ([] : List Addr) from z) (by simp)
  refine ⟨⟨e0.mod, S.kind, rfl, rfl, Nat.le_refl _, fun y z c h1 h2 => ?_, fun y hy => ?_, fun y c _ h => ?_, fun _ => hd, Around.frames_deeper e0.frames, .inr ⟨rfl, rfl⟩, fun b z => absurd z (noA b), e0.bs, e0.bsz, fun b _ _ => noA b, fun b z => absurd z (noA b), e0.funs, e0.frf⟩,
    rfl, e0.bare, Un.kept hk, ⟨_, x.toInCall.ns, fun i y v h1 h2 h3 => ?_⟩, fun y c h => ⟨_, x.cell y c h⟩, e0.hok.fresh (Nat.le_refl _), fun y c h => ?_, fun p hp => absurd (show p ∈ ([] : List (Addr × Obj)) from hp) (by simp), e0.hok.kept hk, ?_⟩
  · exact name_of_addr x.apart (PySem.mem_of_lookup h1) (PySem.mem_of_lookup h2)
  · have hy : scope.names.lookup y = some .cell ∨ scope.names.lookup y = some .free := hy
    rcases hy with hy | hy
    · exact cell_has hy
    · exact absurd rfl (S.nofree _ (PySem.mem_of_lookup hy))
  · exact Nat.le_of_lt (x.above y c (PySem.mem_of_lookup h))
  · have hi : i < vs.length := by
      unfold start at h2
      by_cases hi : i < vs.length
      · exact hi
      · rw [List.getElem?_append_right (by simpa using hi)] at h2
        rw [List.getElem?_replicate] at h2
        split at h2 <;> cases h2
    have ha : vs[i]? = some v := by
      unfold start at h2
      rw [List.getElem?_append_left (by simpa using hi), List.getElem?_map] at h2
      cases e : vs[i]? with
      | none => rw [e] at h2; cases h2
      | some a => rw [e] at h2; cases h2; rfl
    obtain ⟨u, hu, rv⟩ := r.get ha
    have hp : ps[i]? = some y := by
      rw [← S.pre, List.getElem?_take_of_lt (by omega)]; exact h1
    have ndP : ps.Nodup := by rw [← S.pre]; exact S.nd.sublist (List.take_sublist _ _)
    refine ⟨u, rv, ?_⟩
    rcases S.par y (List.mem_of_getElem? hp) with k | k
    · exact .inl ⟨k, bindL_get ndP hp hu k⟩
    · obtain ⟨c, e⟩ := cell_has (n := s.heap.objs.size + 1) k
      refine .inr ⟨.inl k, c, e, ?_⟩
      have q := x.cell y c e
      rw [bindC_get ndP hp hu (by show scope.names.lookup y ≠ _; rw [k]; decide)] at q
      exact q
  · exact e0.hok.fresh (Nat.le_of_lt (x.above y c (PySem.mem_of_lookup h)))
  · unfold start
    show _ = N.length
    rw [List.length_append, List.length_map, List.length_replicate]
    omega

/-- THE RULE: a def (or a method) of the text, by its body. The body's reading t is chosen for each entry; it is run at the parameters' values -/
theorem fn_of {CX : CXT} {P : Program} {w : World} {K : PySem.W.Frag} {mg : Str → Option Value} {base : Heap} {k : Nat} {f : Addr} {name qual : Str} {params : Arguments} {body : List Stmt} {scope : Scope} {dV kV doc pm cdv ct oc : Value} {an od : Option Addr}
    {osl : Array (Option Value)} {N ps : List Str} {sp : Sp} (lk : K.lookup f = some ⟨oc, od, .func (PySem.W.fnOf name qual params body scope dV kV doc pm an cdv ct), osl⟩) (hcd : PySem.W.codeIn K cdv qual = true) (S : FnScope N ps scope)
    (len : ∀ vs H Q E, sp vs H Q E → vs.length = ps.length)
    (hbody : ∀ (A : Around) (outer : List Env) (s : Shared) (H : Hp) (vs : List V) (Q : VK) (E : XK), Room k (A.deeper (envOfC qual scope s.heap.objs.size f cdv)) → sp vs H Q E →
      ∃ t, PSs (cxOf CX P w K mg base N qual scope f cdv A outer s H E) body t ∧ t { nx := fun _ H' => Q .non H', rt := Q } (start N vs) H) :
    FnOk P w K mg base CX (k + 1) f (PySem.W.fnOf name qual params body scope dV kV doc pm an cdv ct) ps sp := by
  refine ⟨len, fun A outer s H args us vs Q E hr e0 hb r hsp => ?_⟩
  have hl := len _ _ _ _ hsp
  have KX : K.In s.heap := e0.mod.kin.keeps fun b o e => (e0.bs b o e).1
  have lim : s.heap.NoLimit := e0.mod.nolimit.keeps fun b o e => (e0.bs b o e).1
  have hkind : ∀ y ∈ ps.zip us, scope.names.lookup y.1 = some .local ∨ (scope.names.lookup y.1 = some .cell ∧ ((cellsFrom (s.heap.objs.size + 1) scope.names []).lookup y.1).isSome = true) := fun ⟨n, v⟩ hy => by
    rcases S.par n (List.of_mem_zip hy).1 with q | q
    · exact .inl q
    · exact .inr ⟨q, PySem.W.cellsFrom_some _ _ _ (.inl q)⟩
  refine codeAny_call_function hr.depth (KX _ _ lk) rfl S.co S.gen rfl (PySem.W.codeRec_of KX hcd) (hb _ _ _ _ ?_)
  refine wpAny_newFunctionEnv_cells S.kind hkind fun env he s1 x => ?_
  subst he
  refine ⟨lim.keeps x.toInCall.keep, codeAny_func ?_⟩
  obtain ⟨t, ht, hq⟩ := hbody A outer s H vs Q E (hr.deeper _) hsp
  have I : Inv (cxOf CX P w K mg base N qual scope f cdv A outer s H E) [] (start N vs) H s1 := inv_start S hr.hd e0 hl r x
  refine wpAny_mono (ht [] s1 (start N vs) H _ I hq) (fun fl s' hs => ?_) fun e s' hs => hs
  have fin : ∀ {σ' : St} {H' : Hp} {v : V} {u : Value}, Inv (cxOf CX P w K mg base N qual scope f cdv A outer s H E) [] σ' H' s' → RelV v u → Q v H' → CE outer P w H s Q u s' :=
    fun {σ' H' v u} J rv q => ⟨v, H', J.os, J.bare, J.base, J.hok, rv, q⟩
  cases fl with
  | ret u =>
    obtain ⟨v, σ', H', J, rv, q⟩ := hs
    exact fin J rv q
  | next =>
    obtain ⟨σ', H', J, q⟩ := hs
    exact fin (v := V.non) (u := Value.none) J rfl q
  | brk =>
    obtain ⟨_, _, _, q⟩ := hs
    exact False.elim q
  | cont =>
    obtain ⟨_, _, _, q⟩ := hs
    exact False.elim q
end L2

namespace L2
open PySem PySem.Spec PyProof.Rows
section
variable {X : Cx} {x : Str} {p pos : Pos} {e : Expr} {es : List Expr} {t : TA} {id T : String} {r : List V → Hp → VK → Prop}

def tCB (r : List V → Hp → VK → Prop) (t : TA) : TE := fun σ H Q => t σ H fun vs H1 => r vs H1 Q
/-- f(e, ..), f a built-in function -/
theorem pe_callB (hc : CallR X (.builtin id) r) (hg : Gl X x) (hm : X.mg x = none) (hv : bootBuiltins x = some (.builtin id)) (ha : PA X (e :: es) t) (hn : x ≠ "__name__" := by decide) (hdb : (x == ("__debug__" : Str)) = false := by decide)
    (he : starEach (e :: es) X.env = (false, eval e X.env) :: starEach es X.env := by rfl) (hpl : (backTo pos (starEach es X.env)).any (·.1) = false := by rfl) : PE X (.Call (.Name x p) (e :: es) [] pos) (tCB r t) := by
  intro pins s σ H Q I h
  refine wpAny_Call_Name_kw (ld_blt I hg hm hv ?_ hn hdb)
  exact PyProof.Rows.callWith_builtin1 (thn (ha pos pins s σ H _ I h) fun us s1 ⟨vs, H1, I1, r1, q1⟩ => hc pins s1 σ H1 vs us Q I1 r1 q1) he hpl
end
end L2

namespace HT
open PySem PyProof.Rows

section
open PySem.SeqAt
open PySem.AutoSeq1 (wpAny_loadPart')
open PySem.MeetsSeq PySem.MeetsSeq2 PySem.MeetsSeq3

end

section
variable {prog : Program} {w : World} {A : Around} {E : Value → Shared → Prop} {s : Shared}

/-! ### t[a:b], not the whole -/
/-- a slice's bound as a place among n (d where it is left out) -/
def sIx (n d : Nat) : Option Int → Nat
  | none => d
  | some v => if v < 0 then (v + (n : Int)).toNat else min v.toNat n
theorem sIx_none (n d : Nat) : sIx n d none = d := rfl
theorem sIx_nat (n d k : Nat) : sIx n d (some (k : Int)) = min k n := by
  show (if (k : Int) < 0 then ((k : Int) + (n : Int)).toNat else min (k : Int).toNat n) = min k n
  rw [if_neg (by omega), Int.toNat_natCast]
end
end HT

namespace L2
open PySem PySem.Spec PyProof.Rows

/-! ### the parts of a slice -/
abbrev TO := St → Hp → (Option Int → Hp → Prop) → Prop
/-- a slice's part (left out, or an int) -/
def PO (X : Cx) (e : Option Expr) (t : TO) : Prop :=
  ∀ (pins : List (Addr × Obj)) (s : Shared) (σ : St) (H : Hp) (Q : Option Int → Hp → Prop), Inv X pins σ H s → t σ H Q →
    wpAny (model X.prog X.w) X.A (evalPart e X.env) (fun u s' => ∃ o H', Inv X pins σ H' s' ∧ IsPart u o ∧ Q o H') X.xe s
def tNoPart : TO := fun _ H Q => Q none H
def tPart (t : TE) : TO := fun σ H Q => t σ H fun x H1 => ∃ i, x = .int i ∧ Q (some i) H1

section
variable {X : Cx} {e : Expr} {te : TE} {lo hi : Option Expr} {tl th : TO} {pos p2 : Pos}

theorem po_none : PO X none tNoPart := by
  intro pins s σ H Q I h
  rw [evalPart_none]
  exact wpAny_pure ⟨none, H, I, .none, h⟩
theorem po_some (h : PE X e te) : PO X (some e) (tPart te) := by
  intro pins s σ H Q I hw
  rw [evalPart_some]
  refine thn (h pins s σ H _ I hw) fun u s1 ⟨x, H1, I1, r1, q1⟩ => ?_
  obtain ⟨i, rfl, q⟩ := q1
  obtain ⟨t, rfl⟩ := r1
  exact ⟨some i, H1, I1, .int i t, q⟩

/-- what a slice of a value is, by values: the slice object stands at sl -/
def SlR (X : Cx) (r : V → Option Int → Option Int → Hp → VK → Prop) : Prop :=
  ∀ (pins : List (Addr × Obj)) (s : Shared) (σ : St) (H : Hp) (x : V) (v vl vu : Value) (lo hi : Option Int) (sl : Addr) (Q : VK), Inv X pins σ H s → RelV x v → s.heap.IsSliceOf sl vl vu .none → IsPart vl lo → IsPart vu hi → r x lo hi H Q →
    ∃ T id, typeLookup (.type T) "__getitem__" = pure (some (.builtin id)) ∧ s.TypeIs v T ∧ wpAny (model X.prog X.w) X.A (getItem v (.ref sl)) (EP X pins σ Q) X.xe s
def tSl (r : V → Option Int → Option Int → Hp → VK → Prop) (te : TE) (tl th : TO) : TE := fun σ H Q => te σ H fun x H1 => tl σ H1 fun l H2 => th σ H2 fun u H3 => r x l u H3 Q
/-- a[lo:hi], any a -/
theorem pe_slice {r : V → Option Int → Option Int → Hp → VK → Prop} (hr : SlR X r) (he : PE X e te) (hl : PO X lo tl) (hu : PO X hi th) : PE X (.Subscript e (.Slice lo hi none p2) pos) (tSl r te tl th) := by
  intro pins s σ H Q I h
  refine Subscript_ (thn (he pins s σ H _ I h) fun v s1 ⟨x, H1, I1, r1, q1⟩ => ?_)
  refine wpAny_Slice (thn (hl pins s1 σ H1 _ I1 q1) fun vl s2 ⟨l, H2, I2, pl, q2⟩ => thn (hu pins s2 σ H2 _ I2 q2) fun vu s3 ⟨u, H3, I3, pu, q3⟩ => ?_)
  rw [evalPart_none]
  refine wpAny_pure ?_
  have I4 : Inv X pins σ H3 { s3 with heap := s3.heap.push { cls := .type "slice", data := .fields #[vl, vu, .none] } } := I3.kept (t' := s3.toks) fun b ob q => Heap.get?_push_of_some _ q
  obtain ⟨T, id, hT, ht, hg⟩ := hr pins { s3 with heap := s3.heap.push { cls := .type "slice", data := .fields #[vl, vu, .none] } } σ H3 x v vl vu l u s3.heap.objs.size Q I4 r1 (Heap.IsSliceOf.new ..) pl pu q3
  show wpAny (model X.prog X.w) X.A (subscriptTail e (.Slice lo hi none p2) v (.ref s3.heap.objs.size)) (EP X pins σ Q) X.xe { s3 with heap := s3.heap.push { cls := .type "slice", data := .fields #[vl, vu, .none] } }
  exact tail_any (ops := [.ref s3.heap.objs.size, v]) ht hT hg (by with_unfolding_all rfl)

/-- the items of xs[lo:hi] -/
def cutV (xs : List V) (lo hi : Option Int) : List V := (xs.drop (HT.sIx xs.length 0 lo)).take (HT.sIx xs.length xs.length hi - HT.sIx xs.length 0 lo)
theorem cutV_length (xs : List V) (lo hi : Option Int) : (cutV xs lo hi).length ≤ xs.length := by
  unfold cutV
  rw [List.length_take, List.length_drop]
  omega
/-! ### t < u, t + u -/
end
end L2

namespace L2
open PySem PySem.Spec PyProof.Rows

/-! ### places -/
/-- the place that an index of any sign means -/
def ixN (n : Nat) (i : Int) : Option Nat := if 0 ≤ i then (if i < n then some i.toNat else none) else if -(n : Int) ≤ i then some (i + n).toNat else none
def atI {α : Type} (xs : List α) (i : Int) : Option α := (ixN xs.length i).bind fun j => xs[j]?
theorem ixN_seq {n : Nat} {i : Int} {j : Nat} (h : ixN n i = some j) : seqIndex? i n = some j ∧ j < n ∧ -(n : Int) ≤ i ∧ i < n := by
  unfold ixN at h
  by_cases h0 : 0 ≤ i
  · rw [if_pos h0] at h
    by_cases h1 : i < n
    · rw [if_pos h1] at h
      have e : i.toNat = j := Option.some.inj h
      exact ⟨by rw [seqIndex_of h0 h1, e], by omega, by omega, h1⟩
    · rw [if_neg h1] at h; cases h
  · rw [if_neg h0] at h
    by_cases h1 : -(n : Int) ≤ i
    · rw [if_pos h1] at h
      have e : (i + n).toNat = j := Option.some.inj h
      exact ⟨by rw [seqIndex_neg (by omega) h1, e], by omega, h1, by omega⟩
    · rw [if_neg h1] at h; cases h
theorem atI_get {α : Type} {xs : List α} {i : Int} {v : α} (h : atI xs i = some v) : ∃ j, seqIndex? i xs.length = some j ∧ xs[j]? = some v ∧ j < xs.length ∧ -(xs.length : Int) ≤ i ∧ i < xs.length := by
  unfold atI at h
  cases e : ixN xs.length i with
  | none => rw [e] at h; cases h
  | some j =>
    rw [e] at h
    obtain ⟨h1, h2, h3, h4⟩ := ixN_seq e
    exact ⟨j, h1, h, h2, h3, h4⟩
theorem atI_nat {α : Type} {xs : List α} {j : Nat} {v : α} (h : xs[j]? = some v) : atI xs (j : Int) = some v := by
  have hj : j < xs.length := (List.getElem?_eq_some_iff.mp h).1
  have e : ixN xs.length (j : Int) = some j := by
    unfold ixN
    rw [if_pos (by omega), if_pos (by omega)]; simp
  unfold atI; rw [e]; exact h
/-! ### what may be subscripted -/
/-- what stands as an index of a plain subscript -/
def PlainIx (b : Expr) : Prop := ∀ o i, subscripted b false o i = operate [o, i] (getItem o i)
/-- a subscript by values -/
def IxR (X : Cx) (r : R2) : Prop :=
  ∀ (value slice : Expr) (pins : List (Addr × Obj)) (s : Shared) (σ : St) (H : Hp) (x y : V) (v u : Value) (Q : VK), Inv X pins σ H s → RelV x v → RelV y u → r x y H Q →
    subscripted slice false v u = operate [v, u] (getItem v u) → wpAny (model X.prog X.w) X.A (subscriptTail value slice v u) (EP X pins σ Q) X.xe s
/-- a call of a builtin's method by values: the receiver, the arguments -/
def MtR (X : Cx) (id : String) (r : V → List V → Hp → VK → Prop) : Prop :=
  ∀ (pins : List (Addr × Obj)) (s : Shared) (σ : St) (H : Hp) (x : V) (xs : List V) (v : Value) (us : List Value) (Q : VK), Inv X pins σ H s → RelV x v → Vals xs us → r x xs H Q →
    wpAny (model X.prog X.w) X.A (call (.builtin id) (v :: us)) (EP X pins σ Q) X.xe s
section
variable {X : Cx} {a b : Expr} {ta tb : TE} {pos : Pos}
/-- a[b] -/
theorem pe_ix {r : R2} (hr : IxR X r) (ha : PE X a ta) (hb : PE X b tb) (hs : PlainIx b) : PE X (.Subscript a b pos) (tOp r ta tb) := by
  intro pins s σ H Q I h
  exact Subscript_ (binT ha hb I h fun v u s2 x y H2 I2 rx ry q => hr a b pins s2 σ H2 x y v u Q I2 rx ry q (hs _ _))

def rIxL (K : PySem.W.Frag) : R2 := fun x y H Q => ∃ p xs i v, x = .ref p ∧ y = .int i ∧ SqL K H p xs ∧ atI xs i = some v ∧ Q v H
def rIxT (K : PySem.W.Frag) : R2 := fun x y H Q => ∃ p xs i v, x = .ref p ∧ y = .int i ∧ SqT K H p xs ∧ atI xs i = some v ∧ Q v H
theorem ix_list : IxR X (rIxL X.K) := by
  intro value slice pins s σ H x y v u Q I rx ry h hs
  obtain ⟨p, xs, i, z, rfl, rfl, hq, he, q⟩ := h
  cases rx
  obtain ⟨t, rfl⟩ := ry
  obtain ⟨its, r, pl, hz⟩ := I.list hq
  obtain ⟨j, h1, h2, h3, h4, h5⟩ := atI_get he
  obtain ⟨w, ew, rw'⟩ := r.get h2
  have hl := r.length
  have hn := line63
  have fin : EP X pins σ Q w s := ⟨z, H, I, rw', q⟩
  by_cases h0 : 0 ≤ i
  · have hj : i.toNat = j := by
      rw [seqIndex_of h0 h5] at h1
      exact Option.some.inj h1
    exact item_listR pl.isList h0 (by omega) (by rw [hj]; simpa using ew) fin hs
  · have hj : (i + (its.toArray.size : Int)).toNat = j := by
      rw [seqIndex_neg (by omega) h4] at h1
      rw [List.size_toArray, ← hl]
      exact Option.some.inj h1
    exact subscriptTail_builtinR (x := w) pl.isList.typeIs slot_list_getitem.lookup
      (wpAny_getItem_list_neg (Q := fun r s' => r = w ∧ EP X pins σ Q r s') pl.isList (by omega) (by rw [List.size_toArray] <;> omega) (by omega) (by rw [hj]; simpa using ew) ⟨rfl, fin⟩) hs
theorem ix_tup : IxR X (rIxT X.K) := by
  intro value slice pins s σ H x y v u Q I rx ry h hs
  obtain ⟨p, xs, i, z, rfl, rfl, hq, he, q⟩ := h
  cases rx
  obtain ⟨t, rfl⟩ := ry
  obtain ⟨its, r, pl, hz⟩ := I.tuple hq
  obtain ⟨j, h1, h2, h3, h4, h5⟩ := atI_get he
  obtain ⟨w, ew, rw'⟩ := r.get h2
  have hl := r.length
  have hn := line63
  have fin : EP X pins σ Q w s := ⟨z, H, I, rw', q⟩
  exact subscriptTail_builtinR (x := w) pl.typeIs slot_tuple_getitem.lookup
    (getItem_tuple (j := j) (Q := fun r s' => r = w ∧ EP X pins σ Q r s') pl (by omega) (by omega) (by rw [List.size_toArray, ← hl]; exact h1) (by simpa using ew) ⟨rfl, fin⟩) hs
/-! ### xs[i] = v, any sign -/
/-- the list's object behind a store -/
theorem mapSeq_set (its : List Value) (n j : Nat) (u : Value) : Obj.mapSeq (·.setIfInBounds j u) { cls := .type "list", data := .seq its.toArray n } = { cls := .type "list", data := .seq (its.set j u).toArray n } := by
  simp [Obj.mapSeq]
theorem Inv.lst {pins : List (Addr × Obj)} {σ : St} {H : Hp} {s : Shared} {p : Addr} {xs : List V} (I : Inv X pins σ H s) (h : H p = some (.lst xs)) :
    ∃ (its : List Value) (n : Nat), Vals xs its ∧ s.heap.get? p = some { cls := .type "list", data := .seq its.toArray n } ∧ xs.length ≤ sizeLine := by
  obtain ⟨z, its, n, r, e⟩ := I.hok p _ h
  exact ⟨its, n, r, e, z⟩
/-- the list at p is written by an update of its object -/
theorem Inv.lstUpd {pins : List (Addr × Obj)} {σ : St} {H : Hp} {s : Shared} {p : Addr} {xs ys : List V} {its its' : List Value} {n n' : Nat} {f : Obj → Obj} (I : Inv X pins σ H s) (h : H p = some (.lst xs))
    (ho : s.heap.get? p = some { cls := .type "list", data := .seq its.toArray n }) (hf : f { cls := .type "list", data := .seq its.toArray n } = { cls := .type "list", data := .seq its'.toArray n' }) (r : Vals ys its') (hz : ys.length ≤ sizeLine) (t : Nat) :
    Inv X pins σ (upd H p (.lst ys)) { s with heap := s.heap.update p f, toks := t } := by
  have e : (s.heap.update p f).get? p = some { cls := .type "list", data := .seq its'.toArray n' } := by
    rw [Heap.get?_update_self f ho (by rw [hf] <;> rfl), hf]
  refine I.write (x := p) (e := p) (by rw [h]; trivial) (.inl rfl) (fun b u hb q => (Heap.get?_update_other _ _ (Ne.symm hb)).trans q) ⟨_, e⟩ ?_
  exact ⟨hz, its', n', r, e⟩
def rSetL : V → V → V → Hp → (Hp → Prop) → Prop := fun o i v H Q => ∃ p xs k j, o = .ref p ∧ i = .int k ∧ H p = some (.lst xs) ∧ ixN xs.length k = some j ∧ Q (upd H p (.lst (xs.set j v)))
theorem set_list : PSet X rSetL := by
  intro pins s σ H o i v ov iv u Q I ro ri rv h
  obtain ⟨p, xs, k, j, rfl, rfl, hp, hj, q⟩ := h
  cases ro
  obtain ⟨t, rfl⟩ := ri
  obtain ⟨its, n, r, ho, hz⟩ := I.lst hp
  obtain ⟨h1, h2, h3, h4⟩ := ixN_seq hj
  have hl := r.length
  have hn := line63
  have I' : Inv X pins σ (upd H p (.lst (xs.set j v))) { s with heap := s.heap.update p (Obj.mapSeq (·.setIfInBounds j u)) } :=
    I.lstUpd hp ho (mapSeq_set its n j u) (r.set rv j) (by rw [List.length_set]; exact hz) s.toks
  by_cases h0 : 0 ≤ k
  · have hk : k.toNat = j := by
      rw [seqIndex_of h0 h4] at h1
      exact Option.some.inj h1
    exact PySem.W.ki_setAt ho h0 (by omega) (by rw [List.size_toArray, ← hl]; exact h4) (by rw [hk]; exact ⟨_, I', q⟩)
  · have hk : (k + (its.toArray.size : Int)).toNat = j := by
      rw [seqIndex_neg (by omega) h3] at h1
      rw [List.size_toArray, ← hl]
      exact Option.some.inj h1
    exact PySem.W.ki_setBack ho (by omega) (by rw [List.size_toArray, ← hl]; exact h3) (by omega) (by rw [hk]; exact ⟨_, I', q⟩)

/-! ### slices -/
theorem slice_bounds (lo hi : Option Int) (n : Nat) : (sliceBounds lo hi none n).1 = ((HT.sIx n 0 lo : Nat) : Int) ∧ (sliceBounds lo hi none n).2.1 = ((HT.sIx n n hi : Nat) : Int) ∧ (sliceBounds lo hi none n).2.2 = 1 := by
  refine ⟨?_, ?_, rfl⟩
  · cases lo with
    | none => simp [sliceBounds, HT.sIx]
    | some i =>
      simp only [sliceBounds, HT.sIx, Option.getD_none, show (1 : Int) > 0 by decide, if_true]
      by_cases h : i < 0
      · simp only [h, if_true] <;> omega
      · simp only [h, if_false] <;> omega
  · cases hi with
    | none => simp [sliceBounds, HT.sIx]
    | some i =>
      simp only [sliceBounds, HT.sIx, Option.getD_none, show (1 : Int) > 0 by decide, if_true]
      by_cases h : i < 0
      · simp only [h, if_true] <;> omega
      · simp only [h, if_false] <;> omega
theorem slicePick_cut (its : List Value) (lo hi : Option Int) : slicePick its.toArray lo hi none = ((its.drop (HT.sIx its.length 0 lo)).take (HT.sIx its.length its.length hi - HT.sIx its.length 0 lo)).toArray := by
  obtain ⟨h1, h2, h3⟩ := slice_bounds lo hi its.toArray.size
  unfold slicePick
  rw [h1, h2, h3]
  simp only [sliceRange_one, pick_run, List.size_toArray] <;> rfl
/-- xs[lo:hi] of a list: a new list -/
def rSlL (K : PySem.W.Frag) : V → Option Int → Option Int → Hp → VK → Prop := fun x lo hi H Q => ∃ a xs, x = .ref a ∧ SqL K H a xs ∧ ∀ p, H p = none → Q (.ref p) (upd H p (.lst (cutV xs lo hi)))
theorem sl_list : SlR X (rSlL X.K) := by
  intro pins s σ H x v vl vu lo hi sl Q I rx hs pl pu h
  obtain ⟨a, xs, rfl, hx, q⟩ := h
  cases rx
  obtain ⟨its, r, ht, hz⟩ := I.list hx
  have hlen := r.length
  refine ⟨"list", _, slot_list_getitem.lookup, ht.isList.typeIs, ?_⟩
  refine wpAny_getItem_list_slice ht.isList hs pl pu .none (by simp) ?_ (by rw [List.size_toArray] <;> omega)
  rw [slicePick_cut, ← hlen]
  refine ⟨.ref s.heap.objs.size, _, I.laid (t' := s.toks) (o := .lst (cutV xs lo hi)) (fun b ob q => Heap.get?_push_of_some _ q) (Nat.le_refl _) ?_, rfl, q _ (I.hok.fresh (Nat.le_refl _))⟩
  exact ⟨Nat.le_trans (cutV_length xs lo hi) hz, _, 0, (r.drop (HT.sIx xs.length 0 lo)).take (HT.sIx xs.length xs.length hi - HT.sIx xs.length 0 lo), Heap.get?_push_size _ rfl⟩

/-! ### in, not in: flat items -/
def flatV : V → Bool
  | .non => true
  | .bl _ => true
  | .int _ => true
  | .str _ => true
  | _ => false
/-- == of flat values -/
def eqV : V → V → Bool
  | .non, .non => true
  | .bl a, .bl b => a == b
  | .bl a, .int b => (if a then 1 else 0) == b
  | .int a, .bl b => a == (if b then 1 else 0)
  | .int a, .int b => a == b
  | .str a, .str b => a == b
  | _, _ => false
theorem eqAt_V {A : Around} {s : Shared} {y x : V} {u v : Value} (ry : RelV y u) (rx : RelV x v) (fy : flatV y = true) (fx : flatV x = true) : SeqAt.EqAt A s u v (eqV y x) := by
  cases y with
  | non =>
    cases ry
    cases x with
    | non => cases rx; exact SeqAt.EqAt.same _
    | bl b => cases rx; exact SeqAt.EqAt.none_bool b
    | int b => obtain ⟨t, rfl⟩ := rx; exact SeqAt.EqAt.none_int b t
    | str b => obtain ⟨t, rfl⟩ := rx; exact SeqAt.EqAt.none_str b t
    | _ => exact absurd (show false = true from fx) Bool.false_ne_true
  | bl a =>
    cases ry
    cases x with
    | non => cases rx; exact SeqAt.EqAt.bool_none a
    | bl b => cases rx; exact SeqAt.EqAt.bool_bool a b
    | int b => obtain ⟨t, rfl⟩ := rx; exact SeqAt.EqAt.bool_int a b t
    | str b => obtain ⟨t, rfl⟩ := rx; exact SeqAt.EqAt.bool_str a b t
    | _ => exact absurd (show false = true from fx) Bool.false_ne_true
  | int a =>
    obtain ⟨t', rfl⟩ := ry
    cases x with
    | non => cases rx; exact SeqAt.EqAt.int_none a t'
    | bl b => cases rx; exact SeqAt.EqAt.int_bool a t' b
    | int b => obtain ⟨t, rfl⟩ := rx; exact SeqAt.EqAt.int_int a t' b t
    | str b => obtain ⟨t, rfl⟩ := rx; exact SeqAt.EqAt.int_str a t' b t
    | _ => exact absurd (show false = true from fx) Bool.false_ne_true
  | str a =>
    obtain ⟨t', rfl⟩ := ry
    cases x with
    | non => cases rx; exact SeqAt.EqAt.str_none a t'
    | bl b => cases rx; exact SeqAt.EqAt.str_bool a t' b
    | int b => obtain ⟨t, rfl⟩ := rx; exact SeqAt.EqAt.str_int a t' b t
    | str b => obtain ⟨t, rfl⟩ := rx; exact SeqAt.EqAt.str_str a t' b t
    | _ => exact absurd (show false = true from fx) Bool.false_ne_true
  | _ => exact absurd (show false = true from fy) Bool.false_ne_true
/-- the items' answers, read off the values (a value's own answer does not lean on its token) -/
def eqU (x : V) (u : Value) : Bool := match u with
  | .none => eqV .non x
  | .bool b => eqV (.bl b) x
  | .int i _ => eqV (.int i) x
  | .str z _ => eqV (.str z) x
  | _ => false
theorem eqU_of {x y : V} {u : Value} (r : RelV y u) (f : flatV y = true) : eqU x u = eqV y x := by
  cases y with
  | non => cases r; rfl
  | bl b => cases r; rfl
  | int i => obtain ⟨t, rfl⟩ := r; rfl
  | str z => obtain ⟨t, rfl⟩ := r; rfl
  | _ => exact absurd (show false = true from f) Bool.false_ne_true
theorem any_eqU {x : V} : ∀ {xs : List V} {us : List Value}, Vals xs us → xs.all flatV = true → us.any (eqU x) = xs.any fun y => eqV y x
  | _, _, .nil, _ => rfl
  | y :: xs, u :: us, .cons r t, f => by
    rw [List.all_cons, Bool.and_eq_true] at f
    rw [List.any_cons, List.any_cons, eqU_of r f.1, any_eqU t f.2]
theorem mem_eqAt {A : Around} {s : Shared} {x : V} {v : Value} (rx : RelV x v) (fx : flatV x = true) : ∀ {xs : List V} {us : List Value}, Vals xs us → xs.all flatV = true → ∀ u ∈ us, SeqAt.EqAt A s u v (eqU x u)
  | _, _, .nil, _ => fun u hu => by cases hu
  | y :: xs, u :: us, .cons r t, f => fun u' hu => by
    rw [List.all_cons, Bool.and_eq_true] at f
    rcases List.mem_cons.mp hu with rfl | hu
    · rw [eqU_of r f.1]; exact eqAt_V r rx f.1 fx
    · exact mem_eqAt rx fx t f.2 u' hu
def inV (x : V) (xs : List V) : Bool := xs.any fun y => eqV y x
/-- x in a list or tuple of flat items -/
def rIn (K : PySem.W.Frag) (neg : Bool) : R2 := fun x y H Q => ∃ p xs, y = .ref p ∧ (SqL K H p xs ∨ SqT K H p xs) ∧ flatV x = true ∧ xs.all flatV = true ∧ Q (.bl (if neg then !inV x xs else inV x xs)) H
theorem op_in_seq : OpR X (compareOp .In) (rIn X.K false) := by
  intro pins s σ H x y v u Q I rx ry h
  obtain ⟨p, xs, rfl, hq, fx, fs, q⟩ := h
  cases ry
  rcases hq with hq | hq
  · obtain ⟨its, r, pl, hz⟩ := I.list hq
    refine SeqAt.in_listAt (eqU x) pl.isList (fun w hw => mem_eqAt rx fx r fs w (by simpa using hw)) ⟨.bl _, H, I, rfl, ?_⟩
    rw [show its.toArray.any (eqU x) = its.any (eqU x) by simp, any_eqU r fs]
    exact q
  · obtain ⟨its, r, pl, hz⟩ := I.tuple hq
    refine SeqAt.in_tupleAt (eqU x) pl (fun w hw => mem_eqAt rx fx r fs w (by simpa using hw)) ⟨.bl _, H, I, rfl, ?_⟩
    rw [show its.toArray.any (eqU x) = its.any (eqU x) by simp, any_eqU r fs]
    exact q
theorem op_notIn_seq : OpR X (compareOp .NotIn) (rIn X.K true) := by
  intro pins s σ H x y v u Q I rx ry h
  obtain ⟨p, xs, rfl, hq, fx, fs, q⟩ := h
  cases ry
  rcases hq with hq | hq
  · obtain ⟨its, r, pl, hz⟩ := I.list hq
    refine SeqAt.notIn_listAt (eqU x) pl.isList (fun w hw => mem_eqAt rx fx r fs w (by simpa using hw)) ⟨.bl _, H, I, rfl, ?_⟩
    rw [show its.toArray.any (eqU x) = its.any (eqU x) by simp, any_eqU r fs]
    exact q
  · obtain ⟨its, r, pl, hz⟩ := I.tuple hq
    refine SeqAt.notIn_tupleAt (eqU x) pl (fun w hw => mem_eqAt rx fx r fs w (by simpa using hw)) ⟨.bl _, H, I, rfl, ?_⟩
    rw [show its.toArray.any (eqU x) = its.any (eqU x) by simp, any_eqU r fs]
    exact q
/-! ### len, list(x), tuple(x) of any list or tuple that is read -/
theorem call_len_seq : CallR X (.builtin "len") (fun xs H Q => ∃ p ys, xs = [.ref p] ∧ (SqL X.K H p ys ∨ SqT X.K H p ys) ∧ Q (.int ys.length) H) := by
  intro pins s σ H xs us Q I r h
  obtain ⟨p, ys, rfl, hq, q⟩ := h
  obtain ⟨u, rfl, rx⟩ := vals1 r
  cases rx
  have hn := line63
  rcases hq with hq | hq
  · obtain ⟨its, r', pl, hz⟩ := I.list hq
    have hlen := r'.length
    exact Calls.call_len_list pl.isList (by simp only [List.size_toArray] <;> omega) ⟨.int ys.length, H, I.tok _, ⟨s.toks + 1, by rw [List.size_toArray, hlen]⟩, q⟩
  · obtain ⟨its, r', pl, hz⟩ := I.tuple hq
    have hlen := r'.length
    exact len_tuple pl (by simp only [List.size_toArray] <;> omega) ⟨.int ys.length, H, I.tok _, ⟨s.toks + 1, by rw [List.size_toArray, hlen]⟩, q⟩
/-! ### the call of a builtin's method: o.m(..) -/
/-- the value is of that builtin type -/
def tyV (K : PySem.W.Frag) (T : String) (x : V) (H : Hp) : Prop := match x with
  | .str _ => T = "str"
  | .int _ => T = "int"
  | .ref p => (T = "list" ∧ ∃ xs, SqL K H p xs) ∨ (T = "tuple" ∧ ∃ o, K.lookup p = some o ∧ o.cls = .type "tuple" ∧ o.dict = none) ∨
      (T = "dict" ∧ ((∃ kvs, H p = some (.dK kvs)) ∨ ∃ kvs, H p = some (.dT kvs))) ∨ (T = "set" ∧ ∃ S n, H p = some (.set S n))
  | _ => False
theorem tyV_is {pins : List (Addr × Obj)} {σ : St} {H : Hp} {s : Shared} {T : String} {x : V} {v : Value} (I : Inv X pins σ H s) (r : RelV x v) (ty : tyV X.K T x H) :
    s.TypeIs v T ∧ ∀ a, v = .ref a → ∃ ob, s.heap.get? a = some ob ∧ ob.dict = none := by
  cases x with
  | str z =>
    obtain ⟨t, rfl⟩ := r
    cases (show T = "str" from ty)
    exact ⟨typeIs_str s z t, fun _ e => nomatch e⟩
  | int i =>
    obtain ⟨t, rfl⟩ := r
    cases (show T = "int" from ty)
    exact ⟨typeIs_int s i t, fun _ e => nomatch e⟩
  | ref p =>
    cases r
    rcases ty with ⟨rfl, xs, hq⟩ | ⟨rfl, o, hk, hc, hd⟩ | ⟨rfl, hk⟩ | ⟨rfl, S, n, hk⟩
    · obtain ⟨its, _, pl, _⟩ := I.list hq
      refine ⟨pl.isList.typeIs, fun a e => ?_⟩
      cases e
      obtain ⟨o, n, e, c, hd, _⟩ := pl
      exact ⟨o, e, hd⟩
    · refine ⟨⟨o, I.kIn p o hk, hc⟩, fun a e => ?_⟩
      cases e
      exact ⟨o, I.kIn _ o hk, hd⟩
    · have z : ∃ o, s.heap.get? p = some o ∧ o.ExactDict := by
        rcases hk with ⟨kvs, hk⟩ | ⟨kvs, hk⟩
        · obtain ⟨_, _, _, _, o, _, _, e, ex, _⟩ := I.hok p _ hk
          exact ⟨o, e, ex⟩
        · obtain ⟨_, _, _, _, o, _, _, e, ex, _⟩ := I.hok p _ hk
          exact ⟨o, e, ex⟩
      obtain ⟨o, e, ex⟩ := z
      refine ⟨⟨o, e, ex.1⟩, fun a e2 => ?_⟩
      cases e2
      exact ⟨o, e, ex.2.1⟩
    · obtain ⟨o, _, _, _, e, ex, _⟩ := I.hok p _ hk
      refine ⟨⟨o, e, ex.1⟩, fun a e2 => ?_⟩
      cases e2
      exact ⟨o, e, ex.2.1⟩
  | _ => exact False.elim ty
def tBM (K : PySem.W.Frag) (T : String) (r : V → List V → Hp → VK → Prop) (to : TE) (t : TA) : TE := fun σ H Q => to σ H fun x H1 => tyV K T x H1 ∧ t σ H1 fun xs H2 => r x xs H2 Q
variable {o e : Expr} {es : List Expr} {to : TE} {t : TA} {name : Str} {apos cpos : Pos} {T id : String} {r : V → List V → Hp → VK → Prop}
theorem pe_bm (pa : PlainAttrs T) (slot : Slot T name id) (hty : typeOf (.builtin id) = pure (.type "method_descriptor")) (hm : MtR X id r) (ho : PE X o to) (ha : PA X (e :: es) t)
    (hbase : attributeBase o name X.env (eval o X.env) = eval o X.env := by rfl)
    (hfew : ((backTo cpos (starEach (e :: es) X.env)).all (fun x => !x.1) && (backToKw cpos (keywordEach [] X.env)).all (fun x => x.1.isSome)
      && decide ((e :: es).length + ([] : List Keyword).length + (if ([] : List Keyword).isEmpty then 0 else 1) < 30)) = true := by rfl)
    (hline : (apos.endLine == cpos.line) = true := by rfl) (hs : starEach (e :: es) X.env = (false, eval e X.env) :: starEach es X.env := by rfl) (hplain : (backTo cpos (starEach es X.env)).any (·.1) = false := by rfl) :
    PE X (.Call (.Attribute o name apos) (e :: es) [] cpos) (tBM X.K T r to t) := by
  intro pins s σ H Q I h
  refine wpAny_Call_method_late hbase hfew hline rfl (thn (ho pins s σ H _ I h) fun v s1 ⟨x, H1, I1, r1, ty, q1⟩ => ?_)
  obtain ⟨h1, h2⟩ := tyV_is I1 r1 ty
  refine ⟨T, id, pa, slot, hty, h1, h2, ?_⟩
  have hA := ha cpos pins s1 σ H1 _ I1 q1
  rw [hs] at hA ⊢
  refine Calls.callWith_builtin (by show (false || (backTo cpos (starEach es X.env)).any (·.1)) = false; rw [hplain] <;> rfl) (Calls.evalArgs_plain ?_)
  exact thn hA fun us s2 ⟨vs, H2, I2, r2, q2⟩ => hm pins s2 σ H2 x vs v us Q I2 r1 r2 q2
/- xs.append(e), list.index on a module's tuple .. are MtR facts of 06m -/
end
end L2

namespace L2
open PySem PySem.Spec PyProof.Rows

def MtM (X : Cx) (id : String) (r : V → List V → Hp → VK → Prop) : Prop :=
  ∀ (pins : List (Addr × Obj)) (s : Shared) (σ : St) (H : Hp) (x : V) (xs : List V) (v : Value) (us : List Value) (Q : VK), Inv X pins σ H s → RelV x v → Vals xs us → r x xs H Q →
    wpAny (model X.prog X.w) X.A (call (.builtin id) (v :: us)) (EP X pins σ Q) X.xe s

/-! ### lists of values -/
theorem Vals.one : ∀ {x : V} {us : List Value}, Vals [x] us → ∃ u, us = [u] ∧ RelV x u
  | _, _, .cons r .nil => ⟨_, rfl, r⟩
section
variable {X : Cx} {pins : List (Addr × Obj)} {σ : St} {H : Hp} {s : Shared} {l b : Addr} {xs ys zs : List V}

/-! ### the two steps: a tracked list is rewritten, a new list is laid -/
theorem Inv.lset {its its' : List Value} {n : Nat} {f : Array Value → Array Value} {t' : Nat} (I : Inv X pins σ H s) (hH : H l = some (.lst xs))
    (e : s.heap.get? l = some { cls := .type "list", data := .seq its.toArray n }) (hf : f its.toArray = its'.toArray) (hv : Vals ys its') (hz : ys.length ≤ sizeLine) :
    Inv X pins σ (upd H l (.lst ys)) { s with heap := s.heap.update l (Obj.mapSeq f), toks := t' } := by
  have q := PySem.IsL.update e f
  rw [hf] at q
  refine I.write (x := l) (e := l) (by rw [hH]; exact trivial) (.inl rfl) (fun b' u hb hu => (Heap.get?_update_other s.heap (Obj.mapSeq f) (Ne.symm hb)).trans hu) ⟨_, q⟩ ?_
  exact ⟨hz, its', _, hv, q⟩
theorem Inv.lnew {its : List Value} {t' : Nat} (I : Inv X pins σ H s) (hv : Vals ys its) (hz : ys.length ≤ sizeLine) :
    Inv X pins σ (upd H s.heap.objs.size (.lst ys)) { s with heap := s.heap.push { cls := .type "list", data := .seq its.toArray }, toks := t' } :=
  I.laid (fun _ _ q => Heap.get?_push_of_some _ q) (Nat.le_refl _) ⟨hz, its, 0, hv, Heap.get?_push_size _ rfl⟩
theorem Inv.fresh (I : Inv X pins σ H s) : H s.heap.objs.size = none := I.hok.fresh (Nat.le_refl _)
theorem Inv.lstM (I : Inv X pins σ H s) (hH : H l = some (.lst xs)) : xs.length ≤ sizeLine ∧ ∃ (its : List Value) (n : Nat), Vals xs its ∧ xs.length = its.length ∧ s.heap.get? l = some { cls := .type "list", data := .seq its.toArray n } := by
  obtain ⟨z, its, n, r, e⟩ := I.hok l _ hH
  exact ⟨z, its, n, r, r.length, e⟩

theorem notLongL {n : Nat} (h : n ≤ sizeLine) : Builtin.List.listTooLong n = false := by
  unfold Builtin.List.listTooLong
  exact decide_eq_false (by omega)
end

section
variable {X : Cx}

/-! ### methods -/
def rAppend : V → List V → Hp → VK → Prop := fun x vs H Q => ∃ l xs y, x = .ref l ∧ vs = [y] ∧ H l = some (.lst xs) ∧ xs.length < sizeLine ∧ Q .non (upd H l (.lst (xs ++ [y])))
theorem mt_append : MtM X "list.append" rAppend := by
  intro pins s σ H x vs v us Q I rx rv h
  obtain ⟨l, xs, y, rfl, rfl, hH, hz, q⟩ := h
  cases rx
  obtain ⟨u, rfl, ru⟩ := rv.one
  obtain ⟨z, its, n, r, hl, e⟩ := I.lstM hH
  refine call_meets F.slot_list_append ⟨_, e, rfl⟩ F.entry_list_append (F.args_list_append_2 _ _) (PySem.list_append l its.toArray n u (by rw [List.size_toArray]; omega)) ⟨e, ?_⟩
  refine ⟨.non, _, I.lset (its' := its ++ [u]) hH e (by simp) (r.append (.cons ru .nil)) ?_, rfl, q⟩
  rw [List.length_append, List.length_singleton]
  omega

def rExtend : V → List V → Hp → VK → Prop := fun x vs H Q => ∃ l b xs zs, x = .ref l ∧ vs = [.ref b] ∧ H l = some (.lst xs) ∧ H b = some (.lst zs) ∧ xs.length + zs.length ≤ sizeLine ∧ Q .non (upd H l (.lst (xs ++ zs)))
theorem mt_extend : MtM X "list.extend" rExtend := by
  intro pins s σ H x vs v us Q I rx rv h
  obtain ⟨l, b, xs, zs, rfl, rfl, hH, hB, hz, q⟩ := h
  cases rx
  obtain ⟨u, rfl, ru⟩ := rv.one
  cases ru
  obtain ⟨z, its, n, r, hl, e⟩ := I.lstM hH
  obtain ⟨z2, its2, n2, r2, hl2, e2⟩ := I.lstM hB
  have hsz : its.toArray.size + its2.toArray.size ≤ sizeLine := by rw [List.size_toArray, List.size_toArray]; omega
  have hlong : ¬ (!its.toArray.isEmpty && Builtin.List.listTooLong (its.toArray.size + its2.toArray.size)) = true := by
    rw [notLongL hsz, Bool.and_false]
    exact Bool.false_ne_true
  refine call_meets F.slot_list_extend ⟨_, e, rfl⟩ F.entry_list_extend (F.args_list_extend_2 _ _)
    (AutoSeq1.list_extend_list_list_0 l its.toArray n b its2.toArray n2 hlong (by rw [List.size_toArray]; omega) (by omega)) ⟨e, e2, ?_⟩
  refine ⟨.non, _, I.lset (its' := its ++ its2) hH e (by simp) (r.append r2) ?_, rfl, q⟩
  rw [List.length_append]
  omega

/-! ### list + list, list += list, list * int -/
def rCat : R2 := fun x y H Q => ∃ l b xs zs, x = .ref l ∧ y = .ref b ∧ H l = some (.lst xs) ∧ H b = some (.lst zs) ∧ xs.length + zs.length ≤ sizeLine ∧ ∀ p, H p = none → Q (.ref p) (upd H p (.lst (xs ++ zs)))
theorem op_cat : OpR X (binaryOp .Add) rCat := by
  intro pins s σ H x y v u Q I rx ry h
  obtain ⟨l, b, xs, zs, rfl, rfl, hH, hB, hz, q⟩ := h
  cases rx
  cases ry
  obtain ⟨z, its, n, r, hl, e⟩ := I.lstM hH
  obtain ⟨z2, its2, n2, r2, hl2, e2⟩ := I.lstM hB
  refine PySem.P.add_list e e2 ?_ (by rw [List.size_toArray, List.size_toArray]; omega)
  have ea : its.toArray ++ its2.toArray = (its ++ its2).toArray := by simp
  rw [ea]
  exact ⟨.ref _, _, I.lnew (t' := s.toks) (r.append r2) (by rw [List.length_append]; omega), rfl, q _ I.fresh⟩
/-! ### del xs[i] -/
end

/-! ### xs[a:b] = ys -/
section
variable {prog : Program} {w : World} {A : Around} {E : Value → Shared → Prop} {s : Shared}
set_option maxRecDepth 100000 in
end

section
variable {X : Cx}
end
end L2

namespace L2
open PySem PySem.Spec PyProof.Rows

/-! ### the library's walks over a list of ints, kept objects alone -/
section
variable {prog : Program} {w : World} {A : Around} {E : Value → Shared → Prop} {s : Shared} {l : Addr} {its : List Value} {ns : List Int} {Q : Value → Shared → Prop}
end

/-! ### the calls, by values (CallR of 03t; MtR of 06l) -/
section
variable {X : Cx}
/-! sorted, sort (fewer than 64 items: the library's own bound) -/
end

/-! ### list.index, flat items -/
section
variable {X : Cx}
end

/-! ### type(x) of an own instance; is, is not of a module's class -/
section
variable {X : Cx}
end

/-! ### any(xs), all(xs) of a list of bools -/
section
variable {X : Cx}
end

/-! ### == and != of data at any depth: none, bools, ints, texts, lists, tuples -/
mutual
inductive Dp (K : PySem.W.Frag) (H : Hp) : V → PyData → Prop
  | non : Dp K H .non .none
  | bl (b : Bool) : Dp K H (.bl b) (.bool b)
  | int (i : Int) : Dp K H (.int i) (.int i)
  | str (x : Str) : Dp K H (.str x) (.str x)
  | lst {a : Addr} {xs : List V} {ds : List PyData} : SqL K H a xs → DpAll K H xs ds → Dp K H (.ref a) (.list ds)
  | tup {a : Addr} {xs : List V} {ds : List PyData} : SqT K H a xs → DpAll K H xs ds → Dp K H (.ref a) (.tuple ds)
inductive DpAll (K : PySem.W.Frag) (H : Hp) : List V → List PyData → Prop
  | nil : DpAll K H [] []
  | cons {v : V} {vs : List V} {d : PyData} {ds : List PyData} : Dp K H v d → DpAll K H vs ds → DpAll K H (v :: vs) (d :: ds)
end
section
variable {X : Cx} {pins : List (Addr × Obj)} {σ : St} {H : Hp} {s : Shared}
mutual
theorem Dp.reads (I : Inv X pins σ H s) : ∀ (d : PyData) (v : V) (u : Value), Dp X.K H v d → RelV v u → ∃ as, Reads s.heap u d as
  | .none, _, _, h, r => by
    cases h
    cases r
    exact ⟨_, Reads.none⟩
  | .bool b, _, _, h, r => by
    cases h
    cases r
    exact ⟨_, Reads.bool b⟩
  | .int i, _, _, h, r => by
    cases h
    obtain ⟨t, rfl⟩ := r
    exact ⟨_, Reads.int i t⟩
  | .str x, _, _, h, r => by
    cases h
    obtain ⟨t, rfl⟩ := r
    exact ⟨_, Reads.str x t⟩
  | .list ds, _, _, h, r => by
    cases h with
    | lst hs ha =>
      cases r
      obtain ⟨its, rv, ⟨o, n, ho, hc, _, hd⟩, _⟩ := I.list hs
      obtain ⟨as, hr⟩ := Dp.readsAll I ds _ its ha rv
      exact ⟨_, Reads.list ho hc hd hr⟩
  | .tuple ds, _, _, h, r => by
    cases h with
    | tup hs ha =>
      cases r
      obtain ⟨its, rv, ⟨o, ho, hc, n, hd⟩, _⟩ := I.tuple hs
      obtain ⟨as, hr⟩ := Dp.readsAll I ds _ its ha rv
      exact ⟨_, Reads.tuple ho hc hd hr⟩
  | .dict _, _, _, h, _ => by cases h
theorem Dp.readsAll (I : Inv X pins σ H s) : ∀ (ds : List PyData) (vs : List V) (us : List Value), DpAll X.K H vs ds → Vals vs us → ∃ as, ReadsAll s.heap us ds as
  | [], _, _, h, r => by
    cases h
    cases r
    exact ⟨_, ReadsAll.nil⟩
  | d :: ds, _, _, h, r => by
    cases h with
    | cons h1 h2 =>
      cases r with
      | cons r1 r2 =>
        obtain ⟨as, q1⟩ := Dp.reads I d _ _ h1 r1
        obtain ⟨bs, q2⟩ := Dp.readsAll I ds _ _ h2 r2
        exact ⟨_, ReadsAll.cons q1 q2⟩
end
end
section
variable {X : Cx}
end
end L2

namespace L2
open PySem PySem.Spec PyProof.Rows
abbrev CellAt (h : Heap) (c : Addr) (v : Option Value) : Prop := h.IsCell c v
def relS (scope sc : Scope) : Scope :=
  { scope with names := scope.names.map fun (n, k) => if (k == .free && sc.kind == .function && sc.names.lookup n == some .cell) then (n, .cell) else (n, k) }

def cloFrom (cells : List (Str × Addr)) : List (Str × NameKind) → List (Str × Addr) → List (Str × Addr)
  | [], acc => acc
  | (n, k) :: r, acc => if k == .free then cloFrom cells r ((n, (cells.lookup n).getD 0) :: acc) else cloFrom cells r acc

theorem closure_loop (env : Env) (f : Str × NameKind → List (Str × Addr) → Sem (ForInStep (List (Str × Addr))))
    (hf : ∀ n k c, f (n, k) c = if k == .free then (do let a ← cellOf env n; pure (.yield ((n, a) :: c))) else pure (.yield c)) :
    ∀ (names : List (Str × NameKind)) (acc : List (Str × Addr)), (∀ y ∈ names, y.2 = .free → ∃ c, env.cells.lookup y.1 = some c) → forIn names acc f = pure (cloFrom env.cells names acc)
  | [], acc, _ => by rw [List.forIn_nil]; rfl
  | (n, k) :: r, acc, h => by
    rw [List.forIn_cons, hf]
    have ih := fun acc => closure_loop env f hf r acc fun y hy => h y (List.mem_cons_of_mem _ hy)
    unfold cloFrom
    by_cases hk : (k == NameKind.free) = true
    · rw [if_pos hk, if_pos hk]
      obtain ⟨c, hc⟩ := h (n, k) List.mem_cons_self (by simpa using hk)
      have e : cellOf env n = pure c := by unfold cellOf; rw [hc]
      rw [e]
      have e2 : (env.cells.lookup n).getD 0 = c := by rw [hc]; rfl
      rw [e2]
      exact ih _
    · rw [if_neg hk, if_neg hk]
      exact ih _
theorem closure_ok {scope : Scope} {env : Env} (h : ∀ y ∈ scope.names, y.2 = .free → ∃ c, env.cells.lookup y.1 = some c) : closureFor scope env = pure (cloFrom env.cells scope.names []) := by
  simp only [closureFor]
  rw [closure_loop env _ (fun n k c => rfl) scope.names [] h]
  rfl

theorem mem_lookup {α : Type} : ∀ {l : List (Str × α)} {n : Str} {c : α}, (n, c) ∈ l → ∃ c', l.lookup n = some c'
  | (k, v) :: r, n, c, h => by
    rw [List.lookup_cons]
    cases hb : n == k with
    | true => exact ⟨_, rfl⟩
    | false =>
      rcases List.mem_cons.mp h with e | h
      · cases e; simp at hb
      · exact mem_lookup h

theorem cloFrom_mem {cells : List (Str × Addr)} : ∀ {names : List (Str × NameKind)} {acc : List (Str × Addr)} {n : Str} {c : Addr}, (n, c) ∈ cloFrom cells names acc → (n, c) ∈ acc ∨ ((n, .free) ∈ names ∧ c = (cells.lookup n).getD 0)
  | [], _, _, _, h => .inl h
  | (m, k) :: r, acc, n, c, h => by
    unfold cloFrom at h
    split at h
    · rename_i hk
      have hk : k = .free := by simpa using hk
      rcases cloFrom_mem h with h | ⟨h1, h2⟩
      · rcases List.mem_cons.mp h with e | h
        · cases e; exact .inr ⟨hk ▸ List.mem_cons_self, rfl⟩
        · exact .inl h
      · exact .inr ⟨List.mem_cons_of_mem _ h1, h2⟩
    · rcases cloFrom_mem h with h | ⟨h1, h2⟩
      · exact .inl h
      · exact .inr ⟨List.mem_cons_of_mem _ h1, h2⟩
theorem cloFrom_acc {cells : List (Str × Addr)} : ∀ {names : List (Str × NameKind)} {acc : List (Str × Addr)} {p : Str × Addr}, p ∈ acc → p ∈ cloFrom cells names acc
  | [], _, _, h => h
  | (m, k) :: r, acc, p, h => by
    unfold cloFrom
    split
    · exact cloFrom_acc (List.mem_cons_of_mem _ h)
    · exact cloFrom_acc h
theorem cloFrom_has {cells : List (Str × Addr)} : ∀ {names : List (Str × NameKind)} {acc : List (Str × Addr)} {n : Str}, (n, .free) ∈ names → (n, (cells.lookup n).getD 0) ∈ cloFrom cells names acc
  | (m, k) :: r, acc, n, h => by
    unfold cloFrom
    rcases List.mem_cons.mp h with e | h
    · cases e
      exact cloFrom_acc List.mem_cons_self
    · split
      · exact cloFrom_has h
      · exact cloFrom_has h

theorem cells_mem : ∀ {names : List (Str × NameKind)} {h : Heap} {acc : List (Str × Addr)} {x : Str} {c : Addr}, (x, c) ∈ cellsFrom h.objs.size names acc →
    (x, c) ∈ acc ∨ ((x, .cell) ∈ names ∧ h.objs.size ≤ c ∧ CellAt (pushCells h names) c none)
  | [], _, _, _, _, h => .inl h
  | (n, k) :: r, h, acc, x, c, hm => by
    unfold cellsFrom at hm
    unfold pushCells
    split at hm
    · rename_i hk
      rw [if_pos hk]
      have hk : k = .cell := by simpa using hk
      rw [← Heap.size_push h { cls := .type "cell", data := .cell none }] at hm
      rcases cells_mem hm with hm | ⟨h1, h2, h3⟩
      · rcases List.mem_cons.mp hm with e | hm
        · cases e
          exact .inr ⟨hk ▸ List.mem_cons_self, Nat.le_refl _, _, pushCells_keeps r _ _ _ (Heap.get?_push_size _ rfl), rfl⟩
        · exact .inl hm
      · rw [Heap.size_push] at h2
        exact .inr ⟨List.mem_cons_of_mem _ h1, Nat.le_of_succ_le h2, h3⟩
    · rename_i hk
      rw [if_neg hk]
      rcases cells_mem hm with hm | ⟨h1, h2, h3⟩
      · exact .inl hm
      · exact .inr ⟨List.mem_cons_of_mem _ h1, h2, h3⟩
theorem cells_acc : ∀ {names : List (Str × NameKind)} {n : Nat} {acc : List (Str × Addr)} {p : Str × Addr}, p ∈ acc → p ∈ cellsFrom n names acc
  | [], _, _, _, h => h
  | (m, k) :: r, n, acc, p, h => by
    unfold cellsFrom
    split
    · exact cells_acc (List.mem_cons_of_mem _ h)
    · exact cells_acc h
theorem cells_has : ∀ {names : List (Str × NameKind)} {n : Nat} {acc : List (Str × Addr)} {x : Str}, (x, .cell) ∈ names → ∃ c, (x, c) ∈ cellsFrom n names acc
  | (m, k) :: r, n, acc, x, h => by
    unfold cellsFrom
    rcases List.mem_cons.mp h with e | h
    · cases e
      exact ⟨n, cells_acc List.mem_cons_self⟩
    · split
      · exact cells_has h
      · exact cells_has h
theorem cells_inj : ∀ {names : List (Str × NameKind)} {h : Heap} {acc : List (Str × Addr)} {x y : Str} {c : Addr}, (∀ p ∈ acc, p.2 < h.objs.size) → (∀ x y c, (x, c) ∈ acc → (y, c) ∈ acc → x = y) →
    (x, c) ∈ cellsFrom h.objs.size names acc → (y, c) ∈ cellsFrom h.objs.size names acc → x = y
  | [], _, _, _, _, _, _, hi, h1, h2 => hi _ _ _ h1 h2
  | (n, k) :: r, h, acc, x, y, c, hl, hi, h1, h2 => by
    unfold cellsFrom at h1 h2
    split at h1
    · rename_i hk
      rw [if_pos hk] at h2
      rw [← Heap.size_push h { cls := .type "cell", data := .cell none }] at h1 h2
      refine cells_inj (h := h.push _) (fun p hp => ?_) (fun x y c a b => ?_) h1 h2
      · rw [Heap.size_push]
        rcases List.mem_cons.mp hp with rfl | hp
        · exact Nat.lt_succ_self _
        · exact Nat.lt_succ_of_lt (hl p hp)
      · rcases List.mem_cons.mp a with e | a <;> rcases List.mem_cons.mp b with e' | b
        · cases e; cases e'; rfl
        · cases e; exact absurd (hl _ b) (Nat.lt_irrefl _)
        · cases e'; exact absurd (hl _ a) (Nat.lt_irrefl _)
        · exact hi _ _ _ a b
    · rename_i hk
      rw [if_neg hk] at h2
      exact cells_inj hl hi h1 h2

theorem newEnv_comp {M : Model} {A : Around} {E : Value → Shared → Prop} {s : Shared} {scope : Scope} {globals : Addr} {closure : List (Str × Addr)} {qual : Str} {func : Option Addr} {code : Value} {around : Env} {builtins : Addr} {Q : Env → Shared → Prop}
    (h : Q (newEnv scope s.heap.objs.size globals (cellsFrom (s.heap.objs.size + 1) scope.names closure) qual func code (some around) builtins)
      { s with heap := pushCells (s.heap.push { cls := .type "dict", data := .dict #[] }) scope.names }) :
    wpAny M A (newFunctionEnv scope globals closure [] qual func code (some around) builtins) Q E s := by
  simp only [newFunctionEnv, Option.isSome_some, if_true]
  refine wpAny_bind (wpAny_alloc ?_)
  refine wpAny_bind (wpAny_layCells _ (fun n k c => rfl) scope.names closure _ _ ?_)
  rw [show ({ s with heap := s.heap.push { cls := .type "dict", data := .dict #[] } } : Shared).heap.objs.size = s.heap.objs.size + 1 from Heap.size_push ..]
  rw [List.forIn_nil]
  exact wpAny_bind (wpAny_pure (wpAny_pure h))

/-- every name of the written scope, in the scope that runs -/
theorem lookup_relS {sc : Scope} : ∀ {names : List (Str × NameKind)} {x : Str} {k : NameKind},
    (names.map fun (n, k) => if (k == NameKind.free && sc.kind == .function && sc.names.lookup n == some .cell) then (n, NameKind.cell) else (n, k)).lookup x = some k →
    ∃ k', names.lookup x = some k' ∧ (k = k' ∨ (k' = .free ∧ k = .cell))
  | [], _, _, h => by simp at h
  | (n, k₀) :: r, x, k, h => by
    have ih := @lookup_relS sc r x k
    have h' : List.lookup x ((if (k₀ == NameKind.free && sc.kind == .function && sc.names.lookup n == some .cell) = true then (n, NameKind.cell) else (n, k₀)) :: (r.map _)) = some k := h
    cases hx : x == n with
    | true =>
      simp only [List.lookup_cons, hx]
      by_cases hc : (k₀ == NameKind.free && sc.kind == .function && sc.names.lookup n == some .cell) = true
      · rw [if_pos hc] at h'
        simp only [List.lookup_cons, hx] at h'
        cases h'
        simp only [Bool.and_eq_true, beq_iff_eq] at hc
        exact ⟨k₀, rfl, .inr ⟨hc.1.1, rfl⟩⟩
      · rw [if_neg hc] at h'
        simp only [List.lookup_cons, hx] at h'
        cases h'
        exact ⟨_, rfl, .inl rfl⟩
    | false =>
      simp only [List.lookup_cons, hx]
      by_cases hc : (k₀ == NameKind.free && sc.kind == .function && sc.names.lookup n == some .cell) = true
      · rw [if_pos hc] at h'
        simp only [List.lookup_cons, hx] at h'
        exact ih h'
      · rw [if_neg hc] at h'
        simp only [List.lookup_cons, hx] at h'
        exact ih h'
/-- the names of a comprehension's block: its own (with their places in N), or captured -/
structure BlkOk (N : List Str) (sc scope : Scope) (own : List (Str × Nat)) : Prop where
  kind : scope.kind = .function
  uniq : ∀ y ∈ scope.names, scope.names.lookup y.1 = some y.2
  ix : ∀ p ∈ own, N[p.2]? = some p.1
  free : ∀ y ∈ scope.names, y.2 = .free → sc.names.lookup y.1 = some .cell ∨ sc.names.lookup y.1 = some .free
  own : ∀ y ∈ scope.names, y.2 = .local ∨ y.2 = .cell → y.1 ∈ own.map (·.1) ∨ y.1 ∉ N
/-- the slots of the block's own names forgotten -/
def wipe (σ : St) : List Nat → St
  | [] => σ
  | v :: vs => (wipe σ vs).set v none
theorem wipe_length (σ : St) : ∀ vs : List Nat, (wipe σ vs).length = σ.length
  | [] => rfl
  | v :: vs => by unfold wipe; rw [List.length_set, wipe_length σ vs]
theorem wipe_some {σ : St} {i : Nat} {x : V} : ∀ {vs : List Nat}, (wipe σ vs)[i]? = some (some x) → σ[i]? = some (some x) ∧ i ∉ vs
  | [], h => ⟨h, by simp⟩
  | v :: vs, h => by
    unfold wipe at h
    by_cases hi : v = i
    · subst hi
      by_cases hv : v < (wipe σ vs).length
      · rw [List.getElem?_set_self hv] at h; cases h
      · rw [List.getElem?_eq_none (by simpa using hv)] at h; cases h
    · rw [List.getElem?_set_ne hi] at h
      obtain ⟨h1, h2⟩ := wipe_some h
      exact ⟨h1, by simp only [List.mem_cons, not_or]; exact ⟨fun e => hi e.symm, h2⟩⟩

/-- the context of a block that starts at s, its iterator's objects at fp -/
abbrev Cx.blk (X : Cx) (s : Shared) (H : Hp) (scope : Scope) (cenv : Env) (fp : List Addr) : Cx := { X with s₀ := s, H₀ := H, env := cenv, outer := X.stack, ex := fp, fn := fun x => scope.names.lookup x == some .cell, pn := [], xe := fun _ _ => False }
section
variable {X : Cx} {pins : List (Addr × Obj)} {σ : St} {H : Hp} {s : Shared}
theorem block_start {scope : Scope} {own : List (Str × Nat)} {fp : List Addr} (I : Inv X pins σ H s) (ok : BlkOk X.N X.env.scope scope own) (hN : X.N.Nodup) (hfp : ∀ b ∈ fp, FpOk X pins H b ∧ b < s.heap.objs.size) :
    Inv (X.blk s H scope (compEnvC scope (cellsFrom (s.heap.objs.size + 1) scope.names (cloFrom X.env.cells scope.names [])) s.heap.objs.size X.env) fp) [] (wipe σ (own.map (·.2))) H { s with heap := pushCells (s.heap.push { cls := .type "dict", data := .dict #[] }) scope.names } := by
  have hfree : ∀ y ∈ scope.names, y.2 = .free → ∃ c, X.env.cells.lookup y.1 = some c := fun y hy e => by
    rcases ok.free y hy e with k | k
    · exact I.ok.has _ (.inl k)
    · exact I.ok.has _ (.inr k)
  generalize hcenv : compEnvC scope (cellsFrom (s.heap.objs.size + 1) scope.names (cloFrom X.env.cells scope.names [])) s.heap.objs.size X.env = cenv
  have kp : ∀ b o, s.heap.get? b = some o → (pushCells (s.heap.push { cls := .type "dict", data := .dict #[] }) scope.names).get? b = some o := fun b o e => pushCells_keeps _ _ _ _ (Heap.get?_push_of_some _ e)
  have hL : cenv.locals = s.heap.objs.size := by rw [← hcenv]; rfl
  have hcl : cenv.cells = cellsFrom (s.heap.objs.size + 1) scope.names (cloFrom X.env.cells scope.names []) := by rw [← hcenv]; rfl
  have hsc : cenv.scope = relS scope X.env.scope := by rw [← hcenv]; rfl
  rw [← Heap.size_push s.heap { cls := .type "dict", data := .dict #[] }] at hcl
  have cm : ∀ {y c}, (y, c) ∈ cloFrom X.env.cells scope.names [] → X.env.cells.lookup y = some c ∧ c < s.heap.objs.size := fun {y c} hm => by
    rcases cloFrom_mem hm with hm | ⟨h1, rfl⟩
    · cases hm
    · obtain ⟨c, hc⟩ := hfree _ h1 rfl
      rw [hc]
      obtain ⟨w, z⟩ := I.cell _ _ hc
      exact ⟨rfl, z.lt⟩
  have mem : ∀ {y c}, cenv.cells.lookup y = some c → (X.env.cells.lookup y = some c ∧ c < s.heap.objs.size) ∨ (s.heap.objs.size + 1 ≤ c ∧ CellAt (pushCells (s.heap.push { cls := .type "dict", data := .dict #[] }) scope.names) c none) := fun {y c} e => by
    rw [hcl] at e
    rcases cells_mem (PySem.mem_of_lookup e) with hm | ⟨_, h2, h3⟩
    · exact .inl (cm hm)
    · rw [Heap.size_push] at h2; exact .inr ⟨h2, h3⟩
  have look : ∀ {y}, scope.names.lookup y = some .free → ∃ c, cenv.cells.lookup y = some c ∧ X.env.cells.lookup y = some c := fun {y} hl => by
    have hy : (y, NameKind.free) ∈ scope.names := PySem.mem_of_lookup hl
    obtain ⟨c', e'⟩ := mem_lookup (cells_acc (names := scope.names) (n := (s.heap.push { cls := .type "dict", data := .dict #[] }).objs.size) (cloFrom_has (cells := X.env.cells) (acc := []) hy))
    rw [← hcl] at e'
    refine ⟨c', e', ?_⟩
    rw [hcl] at e'
    rcases cells_mem (PySem.mem_of_lookup e') with hm | ⟨h1, _, _⟩
    · exact (cm hm).1
    · have := ok.uniq _ h1
      rw [hl] at this; cases this
  have okB : (X.blk s H scope cenv fp).Ok := by
    refine ⟨I.ok.mod, by show cenv.scope.kind = _; rw [hsc]; exact ok.kind, by show cenv.globals = _; rw [← hcenv]; exact I.ok.glob, by show cenv.builtins = _; rw [← hcenv]; exact I.ok.blt, by show s.heap.objs.size ≤ cenv.locals; rw [hL]; exact Nat.le_refl _,
      fun y z c e1 e2 => ?_, fun y hy => ?_, fun y c z e => ?_, I.ok.hd, I.ok.frames, .inl rfl, fun b hb => ⟨?_, fun y c e z => ?_⟩, I.bs, Nat.le_trans I.ok.bsz I.sz, fun b o e hb => ?_, fun b hb z => ?_, I.stack, I.stkFree⟩
    · have e1 : cenv.cells.lookup y = some c := e1
      have e2 : cenv.cells.lookup z = some c := e2
      rw [hcl] at e1 e2
      refine cells_inj (fun p hp => ?_) (fun y z c a b => I.ok.inj y z c (cm a).1 (cm b).1) (PySem.mem_of_lookup e1) (PySem.mem_of_lookup e2)
      rw [Heap.size_push]
      exact Nat.lt_succ_of_lt (cm (y := p.1) (c := p.2) hp).2
    · show ∃ c, cenv.cells.lookup y = some c
      have key : ∀ k, cenv.kindOf y = some k → (k = .cell ∨ k = .free) → ∃ c, cenv.cells.lookup y = some c := fun k hk hk' => by
        unfold Env.kindOf at hk
        rw [hsc] at hk
        obtain ⟨k', e, r⟩ := lookup_relS hk
        have : k' = .cell ∨ k' = .free := by
          rcases r with rfl | ⟨rfl, _⟩
          · exact hk'
          · exact .inr rfl
        rcases this with rfl | rfl
        · obtain ⟨c, hm⟩ := cells_has (n := (s.heap.push { cls := .type "dict", data := .dict #[] }).objs.size) (acc := cloFrom X.env.cells scope.names []) (PySem.mem_of_lookup e)
          obtain ⟨c', e'⟩ := mem_lookup hm
          exact ⟨c', by rw [hcl]; exact e'⟩
        · obtain ⟨c, h1, _⟩ := look e
          exact ⟨c, h1⟩
      rcases hy with hy | hy
      · exact key _ hy (.inl rfl)
      · exact key _ hy (.inr rfl)
    · have z : (scope.names.lookup y == some NameKind.cell) = true := z
      have z : scope.names.lookup y = some .cell := by simpa using z
      have e : cenv.cells.lookup y = some c := e
      rw [hcl] at e
      rcases cells_mem (PySem.mem_of_lookup e) with hm | ⟨_, h2, _⟩
      · rcases cloFrom_mem hm with hm | ⟨h1, _⟩
        · cases hm
        · have q := ok.uniq _ h1
          rw [z] at q; cases q
      · rw [Heap.size_push] at h2
        exact Nat.le_of_succ_le h2
    · show b ≠ cenv.locals
      rw [hL]; exact Nat.ne_of_lt (hfp b hb).2
    · have e : cenv.cells.lookup y = some c := e
      rcases mem e with ⟨h1, _⟩ | ⟨h1, _⟩
      · exact (hfp b hb).1.2.2.2.2.1 y c h1 z
      · have h2 : s.heap.objs.size + 1 ≤ b := by rw [← z]; exact h1
        exact absurd (Nat.lt_of_lt_of_le (hfp b hb).2 (Nat.le_of_succ_le h2)) (Nat.lt_irrefl _)
    · rcases (hfp b hb).1.2.2.2.1 with z | z
      · exact I.ok.noex b o e z
      · exact absurd (Nat.lt_of_lt_of_le (Heap.lt_size e) (Nat.le_trans I.ok.bsz z)) (Nat.lt_irrefl _)
    · rcases List.mem_cons.mp (I.stkSub b z) with z | z
      · exact (hfp b hb).1.2.1 z
      · exact (hfp b hb).1.2.2.1 z
  refine ⟨okB, rfl, I.bare, Un.kept kp, ⟨fun _ => none, ?_, fun i y av e1 e2 e3 => ?_⟩, fun y c e => ?_, ?_, fun y c e => ?_, fun p hp => ?_, I.hok.kept kp, by rw [wipe_length]; exact I.len⟩
  · show Heap.Ns _ cenv.locals _
    rw [hL]
    exact Heap.Ns.keeps (Heap.Ns.new ..) fun b o e => pushCells_keeps _ _ _ _ e
  · obtain ⟨e2, hne⟩ := wipe_some e2
    have hfr : scope.names.lookup y = some .free ∧ (cenv.kindOf y = some .cell ∨ cenv.kindOf y = some .free) := by
      have key : ∀ k, cenv.scope.names.lookup y = some k → k = .local ∨ k = .cell ∨ k = .free → scope.names.lookup y = some .free ∧ (cenv.kindOf y = some .cell ∨ cenv.kindOf y = some .free) := fun k hk hk' => by
        have hk0 := hk
        rw [hsc] at hk
        obtain ⟨k', e, r⟩ := lookup_relS hk
        have no : ¬ (k' = .local ∨ k' = .cell) := fun hh => by
          rcases ok.own _ (PySem.mem_of_lookup e) hh with e' | e'
          · obtain ⟨p, hp, hpy⟩ := List.mem_map.mp e'
            have e3 := ok.ix p hp
            have : p.1 = y := hpy
            rw [this] at e3
            exact hne (List.mem_map.mpr ⟨p, hp, nodup_ix hN e3 e1⟩)
          · exact e' (List.mem_of_getElem? e1)
        rcases r with rfl | ⟨rfl, rfl⟩
        · rcases hk' with rfl | rfl | rfl
          · exact absurd (.inl rfl) no
          · exact absurd (.inr rfl) no
          · exact ⟨e, .inr hk0⟩
        · exact ⟨e, .inl hk0⟩
      have e3 : Vis cenv.scope y := e3
      rcases e3 with e3 | e3 | e3
      · exact key _ e3 (.inl rfl)
      · exact key _ e3 (.inr (.inl rfl))
      · exact key _ e3 (.inr (.inr rfl))
    obtain ⟨m, hn, hl⟩ := I.loc
    have hvis : Vis X.env.scope y := (ok.free _ (PySem.mem_of_lookup hfr.1) rfl).elim (fun k => .inr (.inl k)) (fun k => .inr (.inr k))
    obtain ⟨w, r, q⟩ := hl i y av e1 e2 hvis
    refine ⟨w, r, .inr ⟨hfr.2, ?_⟩⟩
    obtain ⟨c, h1, h2⟩ := look hfr.1
    rcases q with ⟨k, _⟩ | ⟨_, c', e', z⟩
    · have k : X.env.scope.names.lookup y = some .local := k
      rcases ok.free _ (PySem.mem_of_lookup hfr.1) rfl with k' | k' <;> rw [show X.env.scope.names.lookup y = _ from k'] at k <;> cases k
    · rw [h2] at e'; cases e'
      exact ⟨c, h1, z.keeps kp⟩
  · have e : cenv.cells.lookup y = some c := e
    rcases mem e with ⟨h1, _⟩ | ⟨_, z⟩
    · obtain ⟨w, z⟩ := I.cell y c h1
      exact ⟨w, z.keeps kp⟩
    · exact ⟨_, z⟩
  · show H cenv.locals = none
    rw [hL]; exact I.hok.fresh (Nat.le_refl _)
  · have e : cenv.cells.lookup y = some c := e
    rcases mem e with ⟨h1, _⟩ | ⟨h1, _⟩
    · exact I.freeC y c h1
    · exact I.hok.fresh (Nat.le_of_succ_le h1)
  · exact absurd (show p ∈ ([] : List (Addr × Obj)) ++ [] from hp) (by simp)

/-- an item appended to a tracked list -/
theorem app_ok {E : Value → Shared → Prop} {D : Addr} {xs : List V} {y : V} {v : Value} {Q : Value → Shared → Prop} (I : Inv X pins σ H s) (hD : H D = some (.lst xs)) (hz : xs.length < sizeLine) (r : RelV y v)
    (h : ∀ s', Inv X pins σ (upd H D (.lst (xs ++ [y]))) s' → Q .none s') : wpAny (model X.prog X.w) X.A (call (.builtin "list.append") [.ref D, v]) Q E s := by
  obtain ⟨hz', its, n, ri, e⟩ := I.hok D _ hD
  have hl := ri.length
  refine append_at (hsz := by rw [List.size_toArray]; omega) e fun h' sb ho' => ?_
  refine h { s with heap := h' } (I.write (t' := s.toks) (by rw [hD]; trivial) (.inl rfl) (fun b u hb q => (sb.2 b hb).trans q) ⟨_, ho'⟩ ⟨by rw [List.length_append]; exact hz, its ++ [v], n + 1, ri.append (.cons r .nil), ?_⟩)
  rw [ho']
  simp

/-- a clause's tests -/
def PTs (X : Cx) (ifs : List Expr) (t : TT) : Prop :=
  ∀ (pins : List (Addr × Obj)) (s : Shared) (σ : St) (H : Hp) (Q : Bool → Hp → Prop), Inv X pins σ H s → t σ H Q →
    wpAny (model X.prog X.w) X.A (forIn ifs true fun c r => if r = true then do let ok ← isTrue c X.env (eval c X.env); pure (ForInStep.yield ok) else pure (ForInStep.yield r)) (TP X pins σ Q) X.xe s
def tYes : TT := fun _ H Q => Q true H
theorem pts_nil : PTs X [] tYes := fun _ _ _ H _ I h => wpAny_tests_nil ⟨H, I, h⟩
theorem pts_one {c : Expr} {t : TT} (h : PT X c t) : PTs X [c] t := fun pins s σ H Q I hw => wpAny_tests_one (h pins s σ H Q I hw)
end

theorem thnF {α : Type} {t : Sem α} {Q Q' : α → Shared → Prop} {M : Model} {A : Around} {E : Value → Shared → Prop} {s : Shared} (h : wpAny M A t Q (fun _ _ => False) s) (hQ : ∀ a s, Q a s → Q' a s) : wpAny M A t Q' E s := wpAny_mono h hQ fun _ _ z => False.elim z

/-- the loop of a list comprehension's block, the target of any form (codeAny_compLoop_tests asks a target that no tuple goes to; statement and proof follow it, PyProof/CompMap.lean:41-61, with the step letOwnedTupleGo kept) -/
theorem compLoop_any {prog : Program} {w : World} {A : Around} {R : Result → Shared → Prop} {s : Shared} {elt target iter : Expr} {ifs : List Expr} {scope : Scope} {pos : Pos} {it acc : Value} {env : Env} (I : Nat → Shared → Prop)
    (turn : ∀ n s, I n s → wpAny (model prog w) A (pyNext it) (fun r s₁ => match r with
      | none => R (.ok .next) s₁
      | some v => wpAny (model prog w) A (letOwnedTupleGo target it v) (fun _ s₁' => wpAny (model prog w) A (assign target env v) (fun _ s₂ =>
          wpAny (model prog w) A (forIn ifs true fun c r => if r = true then do let ok ← isTrue c env (eval c env); pure (ForInStep.yield ok) else pure (ForInStep.yield r)) (fun ok s₃ =>
            if ok = true then wpAny (model prog w) A (eval elt env) (fun x s₄ =>
              wpAny (model prog w) A (call (.builtin "list.append") [acc, x]) (fun _ s₅ => ∃ m, m < n ∧ I m s₅) (notedBy (model prog w) A env fun e s' => R (.error e) s') s₄) (notedBy (model prog w) A env fun e s' => R (.error e) s') s₃
            else ∃ m, m < n ∧ I m s₃) (notedBy (model prog w) A env fun e s' => R (.error e) s') s₂) (notedBy (model prog w) A env fun e s' => R (.error e) s') s₁') (notedBy (model prog w) A env fun e s' => R (.error e) s') s₁) (notedBy (model prog w) A env fun e s' => R (.error e) s') s)
    (n : Nat) (h : I n s) :
    codeAny (model prog w) A (.compLoop (.ListComp elt [⟨target, iter, ifs, 0⟩] scope pos) 0 it acc env) R s := by
  refine codeAny_loop rfl I (fun n s hI => ?_) n h
  show wpAny _ A ((compTurn (.ListComp elt [⟨target, iter, ifs, 0⟩] scope pos) 0 it acc env).onRaise (fun x => do noteFrame x env; theTreesLotGoes x)) _ _ s
  refine wpAny_noted ?_
  rw [compTurn_list]
  refine wpAny_bind (wpAny_standAt (wpAny_bind (wpAny_mono (turn n s hI) (fun r s₁ h₁ => ?_) fun _ _ h' => h')))
  cases r with
  | none => exact wpAny_pure h₁
  | some v =>
    refine wpAny_bind (wpAny_mono h₁ (fun _ s₁' h₁' => ?_) fun _ _ h' => h')
    refine wpAny_bind (wpAny_mono h₁' (fun _ s₂ h₂ => wpAny_bind (wpAny_mono h₂ (fun ok s₃ h₃ => ?_) fun _ _ h' => h')) fun _ _ h' => h')
    cases ok with
    | false => exact wpAny_pure ⟨rfl, h₃⟩
    | true =>
      exact wpAny_bind (wpAny_bind (wpAny_mono h₃ (fun x s₄ h₄ => wpAny_bind (wpAny_mono h₄ (fun _ s₅ h₅ => wpAny_pure (wpAny_pure ⟨rfl, h₅⟩)) fun _ _ h' => h')) fun _ _ h' => h'))

section
variable {X : Cx}
/-- [elt for target in iter if ..]: D the new list; W by the turn and a measure, Nx what a turn is to reach -/
def tLc (wi : TI) (g : TG) (tt : TT) (te : TE) (vs : List Nat) : TE := fun σ H Q => wi σ H fun J H1 => ∀ D, H1 D = none → ∃ W : Nat → Nat → Hp → Prop, (∃ m, W 0 m (upd H1 D (.lst []))) ∧ ∀ i m H, W i m H →
  (J.stop i H ∧ Q (.ref D) H) ∨ (J.go i H ∧ ∃ Nx : Hp → Prop, (∀ H', Nx H' → ∃ m', m' < m ∧ W (i + 1) m' H') ∧ ∀ x H', J.yld i H x H' → g x (wipe σ vs) H' fun σ2 H2 => wipe σ2 vs = wipe σ vs ∧ tt σ2 H2 fun b H3 =>
    if b = true then te σ2 H3 fun y H4 => ∃ acc, H4 D = some (.lst acc) ∧ acc.length < sizeLine ∧ Nx (upd H4 D (.lst (acc ++ [y]))) else Nx H3)
theorem lc_core {pins : List (Addr × Obj)} {s : Shared} {σ : St} {H : Hp} {Q : VK} {elt tg iter : Expr} {ifs : List Expr} {scope : Scope} {own : List (Str × Nat)} {pos pos' : Pos} {wi : TI} {g : TG} {tt : TT} {te : TE} {use : Option (Value → Sem Unit)} {Qf : Value → Shared → Prop}
    (hc : X.calm = true) (hN : X.N.Nodup) (I : Inv X pins σ H s) (hi : PI X tg iter wi) (ok : BlkOk X.N X.env.scope scope own)
    (hg : ∀ (s : Shared) (H : Hp) (C : Addr) (cl : List (Str × Addr)) (fp : List Addr), PG (X.blk s H scope (compEnvC scope cl C X.env) fp) tg g) (ht : ∀ (s : Shared) (H : Hp) (C : Addr) (cl : List (Str × Addr)) (fp : List Addr), PTs (X.blk s H scope (compEnvC scope cl C X.env) fp) ifs tt)
    (he : ∀ (s : Shared) (H : Hp) (C : Addr) (cl : List (Str × Addr)) (fp : List Addr), PE (X.blk s H scope (compEnvC scope cl C X.env) fp) elt te) (hs : ∀ x, foldedSetIterable iter X.env x = pure x)
    (h : tLc wi g tt te (own.map (·.2)) σ H Q)
    (hRR : ∀ D C s' m H', Inv X pins σ H' s' → Q (.ref D) H' → s'.heap.Ns C m → FpOk X pins H' C → compPost (model X.prog X.w) X.A X.xe use Qf (.ref D) C (.ok .next) s') :
    wpAny (model X.prog X.w) X.A (comprehension (.ListComp elt [⟨tg, iter, ifs, 0⟩] scope pos) scope X.env pos' (newList []) false (eval iter X.env) use) Qf X.xe s := by
  have hfree : ∀ y ∈ scope.names, y.2 = .free → ∃ c, X.env.cells.lookup y.1 = some c := fun y hy e => by
    rcases ok.free y hy e with k | k
    · exact I.ok.has _ (.inl k)
    · exact I.ok.has _ (.inr k)
  refine wpAny_comprehension_free (use := use) rfl hs (closure_ok hfree) ok.kind (fun y hy e => by rw [ok.uniq y hy, e])
    (thn (hi pins s σ H _ I h) fun xv s1 hx => thn hx fun itv s2 h2 => ?_)
  obtain ⟨it, fp, tn, J, H2, e, I2, T, st2, f2, q⟩ := h2
  subst e
  refine wpAny_newObj_type (newEnv_comp ?_) (by show 0 ≤ sizeLine; decide)
  generalize hD : s2.heap.objs.size = D
  have hDn : H2 D = none := I2.hok.fresh (Nat.le_of_eq hD)
  obtain ⟨W, ⟨m0, w0⟩, turn⟩ := q D hDn
  -- the new list
  generalize hs3 : ({ s2 with heap := s2.heap.push { cls := .type "list", data := .seq ([] : List Value).toArray } } : Shared) = s3
  have I3 : Inv X pins σ (upd H2 D (.lst [])) s3 := by
    rw [← hs3]
    refine I2.laid (t' := s2.toks) (fun b o e => Heap.get?_push_of_some _ e) (Nat.le_of_eq hD) ⟨Nat.zero_le _, [], 0, .nil, ?_⟩
    rw [← hD]
    exact Heap.get?_push_size _ rfl
  have h3 : s3.heap = s2.heap.push { cls := .type "list", data := .seq ([] : List Value).toArray } := by rw [← hs3]
  have sz : ∀ b ∈ fp, b < s2.heap.objs.size := fun b hb => by
    obtain ⟨o, e, _⟩ := T.obj _ _ st2 b hb
    exact Heap.lt_size e
  have f3 : ∀ b ∈ fp, FpOk X pins (upd H2 D (.lst [])) b ∧ b < s3.heap.objs.size := fun b hb => by
    have hlt := sz b hb
    refine ⟨⟨?_, (f2 b hb).2⟩, by rw [h3, Heap.size_push]; exact Nat.lt_succ_of_lt hlt⟩
    rw [upd_ne (by rw [← hD]; exact Nat.ne_of_lt hlt)]
    exact (f2 b hb).1
  have st3 : tn 0 s3.heap := T.keep _ _ _ st2 fun b _ o e => by rw [h3]; exact Heap.get?_push_of_some _ e
  have I4 := block_start I3 ok hN f3
  have pg := hg s3 (upd H2 D (.lst [])) s3.heap.objs.size (cellsFrom (s3.heap.objs.size + 1) scope.names (cloFrom X.env.cells scope.names [])) fp
  have pt := ht s3 (upd H2 D (.lst [])) s3.heap.objs.size (cellsFrom (s3.heap.objs.size + 1) scope.names (cloFrom X.env.cells scope.names [])) fp
  have pe := he s3 (upd H2 D (.lst [])) s3.heap.objs.size (cellsFrom (s3.heap.objs.size + 1) scope.names (cloFrom X.env.cells scope.names [])) fp
  show codeAny _ _ (.compStart (.ListComp elt [⟨tg, iter, ifs, 0⟩] scope pos) 0 (.ref it) (.ref D) (compEnvC scope (cellsFrom (s3.heap.objs.size + 1) scope.names (cloFrom X.env.cells scope.names [])) s3.heap.objs.size X.env)) (compPost (model X.prog X.w) X.A X.xe use Qf (.ref D) s3.heap.objs.size) { s3 with heap := pushCells (s3.heap.push { cls := .type "dict", data := .dict #[] }) scope.names }
  have nfp : ∀ b ∈ fp, (upd H2 D (.lst [])) b = none := fun b hb => (f3 b hb).1.1
  generalize hce : compEnvC scope (cellsFrom (s3.heap.objs.size + 1) scope.names (cloFrom X.env.cells scope.names [])) s3.heap.objs.size X.env = ce at I4 pg pt pe ⊢
  have cL : ce.locals = s3.heap.objs.size := by subst hce; rfl
  generalize hH3 : upd H2 D (.lst []) = H3 at I3 I4 pg pt pe w0 nfp f3
  generalize hs4 : ({ s3 with heap := pushCells (s3.heap.push { cls := .type "dict", data := .dict #[] }) scope.names } : Shared) = s4 at I4 ⊢
  have st4 : tn 0 s4.heap := T.keep _ _ _ st3 fun b _ o e => by rw [← hs4]; exact pushCells_keeps _ _ _ _ (Heap.get?_push_of_some _ e)
  have stat : ∀ {σ' : St} {H' : Hp} {s' : Shared}, Inv (X.blk s3 H3 scope ce fp) [] σ' H' s' → (∀ b ∈ fp, H' b = none) → ∀ b ∈ fp, FpOk (X.blk s3 H3 scope ce fp) [] H' b := fun {σ' H' s'} I' hn b hb =>
    ⟨hn b hb, (I'.ok.exf b hb).1, I'.ok.exfs b hb, .inl hb, fun x c e => (I'.ok.exf b hb).2 x c e, fun p hp => absurd (show p ∈ ([] : List (Addr × Obj)) ++ [] from hp) (by simp)⟩
  have loop : codeAny (model X.prog X.w) X.A (.compLoop (.ListComp elt [⟨tg, iter, ifs, 0⟩] scope pos) 0 (.ref it) (.ref D) ce) (compPost (model X.prog X.w) X.A X.xe use Qf (.ref D) s3.heap.objs.size) s4 := by
    refine compLoop_any (fun n s' => ∃ i H', Inv (X.blk s3 H3 scope ce fp) [] (wipe σ (own.map (·.2))) H' s' ∧ tn i s'.heap ∧ (∀ b ∈ fp, H' b = none) ∧ W i n H') ?_ m0 ⟨0, H3, I4, st4, nfp, w0⟩
    rintro n s5 ⟨i, H5, I5, st5, n5, w5⟩
    rcases turn i n H5 w5 with ⟨stop, qq⟩ | ⟨go, Nx, hNx, step⟩
    · have td := T.done (X.blk s3 H3 scope ce fp) rfl rfl rfl hc i [] s5 _ H5 (fun _ _ => False) I5 (stat I5 n5) st5 stop
      refine thnF td fun r s6 ⟨hr, I6⟩ => ?_
      subst hr
      -- back in the def's context
      have I7 : Inv X pins σ H5 s6 := I3.call' (ch := fp) I6.os I6.base I6.hok I6.bare fun b hb => ⟨(f3 b hb).1.2.2.2.1, (f3 b hb).1.2.1, (f3 b hb).1.2.2.2.2.1, (f3 b hb).1.2.2.2.2.2⟩
      have nC : H5 s3.heap.objs.size = none := by
        have z : H5 ce.locals = none := I6.free
        rw [cL] at z
        exact z
      obtain ⟨m, hn, _⟩ := I6.loc
      have hn : s6.heap.Ns ce.locals m := hn
      rw [cL] at hn
      exact hRR D s3.heap.objs.size s6 m H5 I7 qq hn (I3.fpOk (Nat.le_refl _) nC)
    · have ti := T.item (X.blk s3 H3 scope ce fp) rfl rfl rfl hc i [] s5 _ H5 (fun _ _ => False) I5 (stat I5 n5) st5 go
      refine thnF ti fun r s6 ⟨u, hr, h6⟩ => ?_
      subst hr
      refine thnF h6 fun _ s7 ⟨x, H7, I7, r7, y7, st7, n7⟩ => ?_
      have I7' := I7.pinned (stat I7 n7) (T.obj _ _ st7)
      refine thnF (pg _ s7 _ H7 x u _ I7' r7 (step x H7 y7)) fun _ s8 ⟨σ8, H8, I8, hw8, q8⟩ => ?_
      refine thnF (pt _ s8 σ8 H8 _ I8 q8) fun b s9 ⟨H9, I9, q9⟩ => ?_
      -- the turn's end
      have fin : ∀ {s' : Shared} {H' : Hp}, Inv (X.blk s3 H3 scope ce fp) ([] ++ pinsAt fp s7.heap) σ8 H' s' → Nx H' → ∃ m, m < n ∧ ∃ i H', Inv (X.blk s3 H3 scope ce fp) [] (wipe σ (own.map (·.2))) H' s' ∧ tn i s'.heap ∧ (∀ b ∈ fp, H' b = none) ∧ W i m H' := fun {s' H'} I' nx => by
        obtain ⟨m', hm, w'⟩ := hNx H' nx
        have pin' : ∀ b ∈ fp, ∀ o, s7.heap.get? b = some o → s'.heap.get? b = some o ∧ H' b = none := fun b hb o e =>
          let z := I'.pin (b, o) (List.mem_append_right _ (List.mem_append_right _ (mem_pinsAt hb e)))
          ⟨z.1, z.2.1⟩
        have hl : (wipe σ (own.map (·.2))).length = σ8.length := by rw [← hw8, wipe_length]
        refine ⟨m', hm, i + 1, H', (I'.unpinned (pins := [])).weak hl (fun j v e => ?_), T.keep _ _ _ st7 fun b hb o e => (pin' b hb o e).1, fun b hb => ?_, w'⟩
        · rw [← hw8] at e
          exact (wipe_some e).1
        · obtain ⟨o, e, _⟩ := T.obj _ _ st7 b hb
          exact (pin' b hb o e).2
      cases b with
      | false =>
        simp only [Bool.false_eq_true, if_false] at q9 ⊢
        exact fin I9 q9
      | true =>
        simp only [if_true] at q9 ⊢
        refine thnF (pe _ s9 σ8 H9 _ I9 q9) fun z s10 ⟨yv, H10, I10, r10, acc, hD10, hz10, nx⟩ => ?_
        exact app_ok (X := X.blk s3 H3 scope ce fp) I10 hD10 hz10 r10 fun s11 I11 => fin I11 nx
  exact codeAny_compStart_list loop (T.self X.A 0 _ _ _ st4 loop)
/-- as a value -/
theorem pe_lc {elt tg iter : Expr} {ifs : List Expr} {scope : Scope} {own : List (Str × Nat)} {pos : Pos} {wi : TI} {g : TG} {tt : TT} {te : TE} (hc : X.calm = true) (hN : X.N.Nodup) (hi : PI X tg iter wi) (ok : BlkOk X.N X.env.scope scope own)
    (hg : ∀ (s : Shared) (H : Hp) (C : Addr) (cl : List (Str × Addr)) (fp : List Addr), PG (X.blk s H scope (compEnvC scope cl C X.env) fp) tg g) (ht : ∀ (s : Shared) (H : Hp) (C : Addr) (cl : List (Str × Addr)) (fp : List Addr), PTs (X.blk s H scope (compEnvC scope cl C X.env) fp) ifs tt)
    (he : ∀ (s : Shared) (H : Hp) (C : Addr) (cl : List (Str × Addr)) (fp : List Addr), PE (X.blk s H scope (compEnvC scope cl C X.env) fp) elt te) (hs : ∀ x, foldedSetIterable iter X.env x = pure x := by intro _; rfl) :
    PE X (.ListComp elt [⟨tg, iter, ifs, 0⟩] scope pos) (tLc wi g tt te (own.map (·.2))) := by
  intro pins s σ H Q I h
  rw [eval_ListComp]
  refine lc_core hc hN I hi ok hg ht he hs h fun D C s' m H' I' q hn f => ⟨m, hn, fun h'' sb => ?_⟩
  obtain ⟨f0, f1, f2, f3, f4, f5⟩ := f
  exact ⟨.ref D, H', I'.turned (t' := s'.toks) (fun b o hb e => (sb.2 b hb).trans e) f0 f1 f3 f4 f5, rfl, q⟩
/-- name = [..] on one line, the name a local -/
theorem ps_setLc {i : Nat} {y : Str} {py : Pos} {elt tg iter : Expr} {ifs : List Expr} {scope : Scope} {own : List (Str × Nat)} {pos spos : Pos} {wi : TI} {g : TG} {tt : TT} {te : TE} (hc : X.calm = true) (hN : X.N.Nodup) (hy : X.N[i]? = some y) (hyl : X.env.scope.names.lookup y = some .local)
    (hsw : swapsWith (.ListComp elt [⟨tg, iter, ifs, 0⟩] scope pos) (some (.Name y py)) spos.line X.env = pure true) (hi : PI X tg iter wi) (ok : BlkOk X.N X.env.scope scope own)
    (hg : ∀ (s : Shared) (H : Hp) (C : Addr) (cl : List (Str × Addr)) (fp : List Addr), PG (X.blk s H scope (compEnvC scope cl C X.env) fp) tg g) (ht : ∀ (s : Shared) (H : Hp) (C : Addr) (cl : List (Str × Addr)) (fp : List Addr), PTs (X.blk s H scope (compEnvC scope cl C X.env) fp) ifs tt)
    (he : ∀ (s : Shared) (H : Hp) (C : Addr) (cl : List (Str × Addr)) (fp : List Addr), PE (X.blk s H scope (compEnvC scope cl C X.env) fp) elt te) (hs : ∀ x, foldedSetIterable iter X.env x = pure x := by intro _; rfl) :
    PS X (.Assign [.Name y py] (.ListComp elt [⟨tg, iter, ifs, 0⟩] scope pos) spos) (tAsg (tLc wi g tt te (own.map (·.2))) (gName i)) := by
  intro pins s σ H D I h
  rw [exec_Assign_Name_used _ _ _ _ hsw]
  refine wpAny_bind (wpAny_standAt (wpAny_bind ?_))
  show wpAny _ X.A (do let _ ← comprehension (.ListComp elt [⟨tg, iter, ifs, 0⟩] scope pos) scope X.env (firstIterPos [⟨tg, iter, ifs, 0⟩] pos) (newList []) false (eval iter X.env) (some (assign (.Name y py) X.env))) _ _ s
  have h : tLc wi g tt te (own.map (·.2)) σ H (fun x H1 => gName i x σ H1 D.nx) := h
  refine wpAny_bind (thn (lc_core (Qf := fun _ s' => SP X pins D .next s') hc hN I hi ok hg ht he hs h fun L C s' m H' I' q hn f => ?_) fun _ s' hq => wpAny_pure (wpAny_pure hq))
  show wpAny _ _ (assign (.Name y py) X.env (.ref L)) _ _ _
  refine wpAny_assign_Name (store_ok2 (v := V.ref L) I' hN hy (.inl hyl) rfl (fun s2 I2 ⟨a, sb, ha⟩ => ?_) (.inr hyl))
  obtain ⟨f0, f1, f2, f3, f4, f5⟩ := f
  have haC : C ≠ a := by
    rcases ha with z | z
    · rw [z]; exact f1
    · exact fun e => f4 y a z e.symm
  refine ⟨m, hn.sameBut sb haC, fun h3 sb3 => ?_⟩
  exact ⟨_, H', I2.turned (t' := s2.toks) (fun b o hb e => (sb3.2 b hb).trans e) f0 f1 f3 f4 f5, q⟩
theorem sw_true {elt : Expr} {gs : List Comprehension} {scope : Scope} {pos py : Pos} {y : Str} {l : Nat} {env : Env} (hk : env.scope.kind = .function) (hy : env.scope.names.lookup y = some .local) (hl : (py.line == pos.line) = true)
    (ha : (scope.names.any fun (n, k) => n == y && (k == .local || k == .cell)) = false) : swapsWith (.ListComp elt gs scope pos) (some (.Name y py)) l env = pure true := by
  have ky : env.kindOf y = some .local := hy
  have hb : env.blockKind = .function := by unfold Env.blockKind; rw [hk]; rfl
  unfold swapsWith
  simp only [hb, ky, ha, Expr.pos, hl]
  rfl
end

/-! ### the forms one uses -/
/-- over a list that the block leaves as it is -/
theorem lc_list {K : PySem.W.Frag} {a : Addr} {xs : List V} {g : TG} {tt : TT} {te : TE} {vs : List Nat} {σ : St} {H1 : Hp} {D : Addr} {Qd : Hp → Prop} (Pv : Nat → Hp → Prop) (h0 : Pv 0 (upd H1 D (.lst []))) (hl : ∀ i H, i ≤ xs.length → Pv i H → SqL K H a xs)
    (hs : ∀ i x H, xs[i]? = some x → Pv i H → g x (wipe σ vs) H fun σ2 H2 => wipe σ2 vs = wipe σ vs ∧ tt σ2 H2 fun b H3 =>
      if b = true then te σ2 H3 fun y H4 => ∃ acc, H4 D = some (.lst acc) ∧ acc.length < sizeLine ∧ Pv (i + 1) (upd H4 D (.lst (acc ++ [y]))) else Pv (i + 1) H3) (hd : ∀ H, Pv xs.length H → Qd H) :
    ∃ W : Nat → Nat → Hp → Prop, (∃ m, W 0 m (upd H1 D (.lst []))) ∧ ∀ i m H, W i m H →
      ((Itl K a).stop i H ∧ Qd H) ∨ ((Itl K a).go i H ∧ ∃ Nx : Hp → Prop, (∀ H', Nx H' → ∃ m', m' < m ∧ W (i + 1) m' H') ∧ ∀ x H', (Itl K a).yld i H x H' → g x (wipe σ vs) H' fun σ2 H2 => wipe σ2 vs = wipe σ vs ∧ tt σ2 H2 fun b H3 =>
        if b = true then te σ2 H3 fun y H4 => ∃ acc, H4 D = some (.lst acc) ∧ acc.length < sizeLine ∧ Nx (upd H4 D (.lst (acc ++ [y]))) else Nx H3) := by
  refine ⟨fun i m H => m = xs.length - i ∧ i ≤ xs.length ∧ Pv i H, ⟨xs.length, by simp, Nat.zero_le _, h0⟩, ?_⟩
  rintro i m H ⟨rfl, hi, p⟩
  have q := hl i H hi p
  by_cases hlt : i < xs.length
  · refine .inr ⟨⟨xs, xs[i], q, by simp [hlt]⟩, Pv (i + 1), fun H' p' => ⟨xs.length - (i + 1), by omega, rfl, hlt, p'⟩, fun x H' y => ?_⟩
    obtain ⟨e, y⟩ := y
    subst e
    exact hs i x _ (y xs q) p
  · have e : i = xs.length := by omega
    subst e
    exact .inl ⟨⟨xs, q, Nat.le_refl _⟩, hd H p⟩
def blkC (N : List Str) (sc scope : Scope) (own : List (Str × Nat)) : Bool :=
  (match scope.kind with | .function => true | _ => false) && (scope.names.all fun y => decide (scope.names.lookup y.1 = some y.2)) && (own.all fun p => decide (N[p.2]? = some p.1)) &&
    (scope.names.all fun y => match y.2 with
      | .free => (match sc.names.lookup y.1 with | some .cell => true | some .free => true | _ => false)
      | .local => decide (y.1 ∈ own.map (·.1)) || decide (y.1 ∉ N)
      | .cell => decide (y.1 ∈ own.map (·.1)) || decide (y.1 ∉ N)
      | _ => true)
theorem blkOk_by {N : List Str} {sc scope : Scope} {own : List (Str × Nat)} (h : blkC N sc scope own = true) : BlkOk N sc scope own := by
  unfold blkC at h
  simp only [Bool.and_eq_true, List.all_eq_true, decide_eq_true_eq] at h
  obtain ⟨⟨⟨h1, h2⟩, h3⟩, h4⟩ := h
  refine ⟨?_, h2, h3, fun y hy e => ?_, fun y hy e => ?_⟩
  · split at h1
    · assumption
    · cases h1
  · have q := h4 y hy
    simp only [e] at q
    split at q <;> first | exact .inl (by assumption) | exact .inr (by assumption) | cases q
  · have q := h4 y hy
    rcases e with e | e <;> (simp only [e, Bool.or_eq_true, decide_eq_true_eq] at q; exact q)
end L2

namespace L2
open PySem PySem.Spec PyProof.Rows

section
variable {prog : Program} {w : World} {A : Around} {R : Result → Shared → Prop} {s : Shared} {elt t0 i0 t1 i1 : Expr} {ifs0 ifs1 : List Expr} {scope : Scope} {pos : Pos} {it acc : Value} {env : Env}
end

section
variable {X : Cx}
end
end L2

namespace L2
open PySem PySem.Spec PyProof.Rows

/-! ### lists of pairs as tables -/
section
variable {κ : Type} [DecidableEq κ]
end


/-! ### a tracked dict, its keys ints and texts or tuples of these -/
section
variable {P : Program} {w : World} {H : Hp} {h : Heap} {a : Addr}
end

section
variable {X : Cx} {pins : List (Addr × Obj)} {σ : St} {H : Hp} {s : Shared} {a : Addr} {y v : V} {u r : Value} {o : Option V} {A : Around} {E : Value → Shared → Prop}

end

section
variable {X : Cx} {pins : List (Addr × Obj)} {σ : St} {H : Hp} {s : Shared} {a : Addr} {kvs : List (Key × V)} {k : Key} {u : Value} {A : Around} {E : Value → Shared → Prop}
end


/-! ### readings and rules -/
section
variable {X : Cx} {o i e value : Expr} {pos pos' tpos : Pos} {td ty tv : TE}
end


/-! ### displays -/
section
variable {X : Cx} {pos : Pos}
end

/-! ### methods -/
/-- a method call o.m(e) of a built-in, with one argument: what must be seen of the text -/
structure M1 (X : Cx) (o : Expr) (m : Str) (apos : Pos) (e : Expr) (cpos : Pos) : Prop where
  base : attributeBase o m X.env (eval o X.env) = eval o X.env
  few : ((backTo cpos (starEach [e] X.env)).all (fun x => !x.1) && (backToKw cpos (keywordEach [] X.env)).all (fun x => x.1.isSome)
    && decide (([e] : List Expr).length + ([] : List Keyword).length + (if ([] : List Keyword).isEmpty then 0 else 1) < 30)) = true
  line : (apos.endLine == cpos.line) = true
  trees : backTo cpos (starEach [e] X.env) = [(false, eval e X.env)]
section
variable {X : Cx} {pins : List (Addr × Obj)} {σ : St} {H : Hp} {s : Shared} {a : Addr} {y d : V} {u r : Value} {o : Option V} {A : Around} {E : Value → Shared → Prop}
end

section
variable {X : Cx} {o e f : Expr} {apos cpos : Pos} {td ty tx : TE}
end

/-! ### dict(d): a copy -/
section
variable {X : Cx} {pins : List (Addr × Obj)} {σ : St} {H : Hp} {s : Shared} {a : Addr} {kvs : List (Key × V)} {A : Around} {E : Value → Shared → Prop}
end


section
variable {X : Cx} {pins : List (Addr × Obj)} {σ : St} {H : Hp} {s : Shared} {a : Addr} {y : V} {u : Value} {A : Around} {E : Value → Shared → Prop}
end
end L2

namespace L2
open PySem PySem.Spec PyProof.Rows

section
variable {prog : Program} {w : World} {A : Around} {E : Value → Shared → Prop}
end

section
variable {X : Cx}
end
end L2

namespace L2
open PySem PySem.Spec PyProof.Rows

section
variable {X : Cx} {pins : List (Addr × Obj)} {σ : St} {H : Hp} {s : Shared} {h' : Heap}
/-- .. and one new object is laid -/
theorem Inv.turnedNew {t' : Nat} {ch : List Addr} {T : Addr} {ob : HO} (I : Inv X pins σ H s) (k : ∀ b o, b ∉ ch → s.heap.get? b = some o → h'.get? b = some o) (hf : ∀ b ∈ ch, FpOk X pins H b) (hT : s.heap.objs.size ≤ T)
    (new : ObjOk X.prog X.w (upd H T ob) h' T ob) : Inv X pins σ (upd H T ob) { s with heap := h', toks := t' } := by
  have hn : H T = none := I.hok.fresh hT
  have nit : ∀ b u, H b = some u → b ∉ ch := fun b u e z => by
    have q := (hf b z).1
    rw [q] at e; cases e
  refine I.step (g' := s.gens) (d' := s.drawn) (ch := ch) (fun b hb => ⟨(hf b hb).2.2.2.1, (hf b hb).2.1, (hf b hb).2.2.2.2.1, (hf b hb).2.2.2.2.2⟩) (fun b o _ _ hc e _ => k b o hc e) (fun b o _ _ hc e _ => ⟨o.slots, k b o hc e⟩)
    (fun b o _ e n => ?_) (fun b o hc e => ⟨o, k b o hc e⟩) (fun b xs e => ?_) (fun b o u e => ?_) (fun b ps e => ⟨#[], ?_⟩) (fun m hm => ?_) (fun b u e => ?_) I.bare
  · rw [upd_ne (Nat.ne_of_lt (Nat.lt_of_lt_of_le (Heap.lt_size e) hT))]; exact n
  · rw [upd_ne (ne_of_none e hn)]; exact e
  · rw [upd_ne (ne_of_none e hn)]; exact e
  · rw [upd_ne (ne_of_none e hn), e]; simp
  · obtain ⟨o, es, ep, ho, r⟩ := hm
    exact ⟨o, es, ep, k _ o (fun z => (hf _ z).2.1 rfl) ho, r⟩
  · by_cases hb : b = T
    · subst hb
      rw [upd_same] at e
      cases e
      exact new
    · rw [upd_ne hb] at e
      refine (I.hok b u e).stay (fun c v hc q => k c v ?_ q) (fun c q => by rw [upd_ne (ne_of_none q hn)]; exact q) fun c xs q => by rw [upd_ne (ne_of_none q hn)]; exact q
      rcases hc with z | z
      · rw [z]; exact nit b u e
      · exact nit c _ z

/-! ### locking a thing while a statement runs -/
end
section
variable {X : Cx}
/-! ### one iterator just laid -/
theorem pi_one {tg : Expr} {pins : List (Addr × Obj)} {σ : St} {H : Hp} {s : Shared} {R : It → Hp → Prop} {J : It} {tn : Nat → Heap → Prop} {tk : Nat} (I : Inv X pins σ H s) (o : Obj)
    (T : Turn X.prog X.w X.K tg J [s.heap.objs.size] s.heap.objs.size tn) (st : tn 0 (s.heap.push o)) (q : R J H) : PIE X pins σ tg R (.ref s.heap.objs.size) { s with heap := s.heap.push o, toks := tk } := by
  refine ⟨s.heap.objs.size, [s.heap.objs.size], tn, J, H, rfl, I.kept fun b ob e => Heap.get?_push_of_some _ e, T, st, fun b hb => ?_, q⟩
  have e : b = s.heap.objs.size := by simpa using hb
  subst e
  exact I.fpOk (Nat.le_refl _) (I.hok.fresh (Nat.le_refl _))
end

/-! ### range with a step -/
/-- lo, lo + c, .. (n of them) -/
def Itc (lo c : Int) (n : Nat) : It := ⟨fun i _ => i < n, fun i H x H' => H' = H ∧ x = .int (lo + (i : Nat) * c), fun i _ => n ≤ i⟩
theorem turn_rangeC {P : Program} {w : World} {K : PySem.W.Frag} {tg : Expr} (it : Addr) (lo c : Int) (n : Nat) : Turn P w K tg (Itc lo c n) [it] it (fun i h => IsRangeIter h it (lo + (i : Nat) * c) ((n : Int) - (i : Nat)) c) where
  mem := by simp
  obj := fun i h st b hb => by
    have e : b = it := by simpa using hb
    subst e
    exact ⟨_, st, fun v z => nomatch z⟩
  keep := fun i h h' st k => k it (by simp) _ st
  item := by
    intro X hP hw hK hc i pins s σ H E I hf st hg
    subst hP hw hK
    obtain ⟨f0, f1, f2, f3, f4, f5⟩ := hf it (by simp)
    have W := Walks.range (prog := X.prog) (w := X.w) (I.ok.hd hc) it lo c n
    refine W.item i s _ _ hg st fun v h' tk hv st' kk => ?_
    obtain ⟨t, rfl⟩ := hv
    have I1 : Inv X pins σ H { s with heap := h', toks := tk } := I.turned (fun b o hb e => kk b o (by simpa using hb) e) f0 f1 f3 f4 f5
    exact ⟨_, rfl, go_of (s := { s with heap := h', toks := tk }) (n := "range_iterator") st' rfl rfl (by decide) ⟨.int (lo + (i : Nat) * c), H, I1, ⟨t, rfl⟩, ⟨rfl, rfl⟩, st', fun b hb => (hf b hb).1⟩⟩
  done := by
    intro X hP hw hK hc i pins s σ H E I hf st hg
    subst hP hw hK
    obtain ⟨f0, f1, f2, f3, f4, f5⟩ := hf it (by simp)
    exact wpAny_pyNext_range_end (I.ok.hd hc) st (by have : n ≤ i := hg; omega) fun h' eb => ⟨rfl, I.turned (t' := s.toks) (fun b o hb e => eb b o hb e) f0 f1 f3 f4 f5⟩
  self := fun A i s Q E st h => wpAny_pyIter_rangeiter st h
/-- range(i, j, c): small bounds, n items -/
def RgC (i j c : Int) (n : Nat) : Prop := c ≠ 0 ∧ c.natAbs < 1073741824 ∧ Builtin.Range.small i j c = true ∧ Builtin.Range.rangeSize i j c = n
theorem RgC.neg {i j : Int} (ha : -(2 ^ 62) ≤ i) (ha' : i < 2 ^ 62) (hb : -(2 ^ 62) ≤ j) (hb' : j < 2 ^ 62) : RgC i j (-1) (i - j).toNat :=
  ⟨by decide, by decide, PySem.W.small_down ha ha' hb hb', PySem.W.rangeSize_downNat i j⟩
def iRng3 (ta : TA) : TI := fun σ H R => ta σ H fun vs H1 => ∃ (i j c : Int) (n : Nat), vs = [.int i, .int j, .int c] ∧ RgC i j c n ∧ R (Itc i c n) H1
section
variable {X : Cx} {tg : Expr}
theorem pi_range3 {a b c : Expr} {ta : TA} {p pos : Pos} (hg : Gl X "range") (hm : X.mg "range" = none) (ha : PA X [a, b, c] ta)
    (hs : starEach [a, b, c] X.env = (false, eval a X.env) :: starEach [b, c] X.env := by rfl) (hpl : (backTo pos (starEach [b, c] X.env)).any (·.1) = false := by rfl) :
    PI X tg (.Call (.Name "range" p) [a, b, c] [] pos) (iRng3 ta) := by
  intro pins s σ H R I h
  refine Call_ (ld_blt I hg hm boot_range (PyProof.Rows.callWith_type1 (thn (ha pos pins s σ H _ I h) fun us s1 ⟨vs, H1, I1, r1, q1⟩ => ?_) hs hpl))
  obtain ⟨i, j, k, n, e, ⟨c0, c1, c2, c3⟩, q⟩ := q1
  subst e
  cases r1 with
  | cons r rr =>
    cases rr with
    | cons r' rr =>
      cases rr with
      | cons r'' rr =>
        cases rr
        obtain ⟨t, rfl⟩ := r
        obtain ⟨t', rfl⟩ := r'
        obtain ⟨t'', rfl⟩ := r''
        refine call_range_3 c0 ?_ (.inl (PyProof.noPylong_small c1))
        refine wpAny_pyIter_range (IsRange.new ..) c2 ?_
        have I2 : Inv X pins σ H1 { s1 with heap := s1.heap.push { cls := .type "range", data := .fields #[.int i t, .int j t', .int k t''] } } := I1.kept (t' := s1.toks) fun b o e => Heap.get?_push_of_some _ e
        refine pi_one (tk := s1.toks) I2 _ (turn_rangeC _ i k n) ?_ q
        have e1 : i + ((0 : Nat) : Int) * k = i := by simp
        have e2 : (n : Int) - ((0 : Nat) : Int) = Builtin.Range.rangeSize i j k := by rw [c3]; simp
        show IsRangeIter _ _ (i + ((0 : Nat) : Int) * k) ((n : Int) - ((0 : Nat) : Int)) k
        rw [e1, e2]
        exact Heap.get?_push_size _ rfl
end
/-- the turns of a step range, for the for loop -/
theorem for_rangeC {lo c : Int} {n : Nat} {g : TG} {tb : TS} {D : Ends} {σ : St} {H : Hp} (Pv : Nat → St → Hp → Prop) (h0 : Pv 0 σ H)
    (hs : ∀ i σ H, i < n → Pv i σ H → g (.int (lo + (i : Nat) * c)) σ H fun σ2 H2 => tb { D with nx := Pv (i + 1), ct := Pv (i + 1), bk := D.nx } σ2 H2) (hd : ∀ σ H, Pv n σ H → D.nx σ H) :
    ∃ W : Nat → Nat → St → Hp → Prop, (∃ m, W 0 m σ H) ∧ ∀ i m σ H, W i m σ H →
      ((Itc lo c n).stop i H ∧ D.nx σ H) ∨ ((Itc lo c n).go i H ∧ ∃ N : St → Hp → Prop, (∀ σ' H', N σ' H' → ∃ m', m' < m ∧ W (i + 1) m' σ' H') ∧ ∀ x H', (Itc lo c n).yld i H x H' → g x σ H' fun σ2 H2 => tb { D with nx := N, ct := N, bk := D.nx } σ2 H2) := by
  refine ⟨fun i m σ H => m = n - i ∧ i ≤ n ∧ Pv i σ H, ⟨n, by simp, Nat.zero_le _, h0⟩, ?_⟩
  rintro i m σ H ⟨rfl, hi, p⟩
  by_cases hlt : i < n
  · refine .inr ⟨hlt, Pv (i + 1), fun σ' H' p' => ⟨n - (i + 1), by omega, rfl, hlt, p'⟩, fun x H' y => ?_⟩
    obtain ⟨e, y⟩ := y
    subst e y
    exact hs i σ _ hlt p
  · have e : i = n := by omega
    subst e
    exact .inl ⟨Nat.le_refl _, hd σ H p⟩

/-! ### reversed(list) -/
section
variable {X : Cx} {tg : Expr}
end

/-! ### a str -/
/-! ### a dict's keys: any dict's entries -/
section
variable {prog : Program} {w : World} {A : Around} {E : Value → Shared → Prop} {s : Shared}
end

/-! ### a locked dict -/
section
variable {X : Cx} {pins : List (Addr × Obj)} {σ : St} {H : Hp} {s : Shared} {d : Addr} {o : Obj}
end

section
variable {P : Program} {w : World} {K : PySem.W.Frag} {tg : Expr} {d : Addr} {o : Obj} {es : Array DictEntry} {ep : Nat}
end

/-! ### for k in d, d.keys(), d.values(), d.items() -/
section
variable {X : Cx} {tg e : Expr} {td : TE} {apos cpos : Pos}
end

/-! ### enumerate(list) -/
/-- the list at a as it stands at each turn, each item in a new pair -/
def Ite (K : PySem.W.Frag) (a : Addr) : It :=
  ⟨fun i H => ∃ (xs : List V) (x : V), SqL K H a xs ∧ xs[i]? = some x, fun i H v H' => ∃ T x, v = .ref T ∧ H T = none ∧ H' = upd H T (.tup [.int (i : Nat), x]) ∧ ∀ xs, SqL K H a xs → xs[i]? = some x, fun i H => ∃ xs : List V, SqL K H a xs ∧ xs.length ≤ i⟩
theorem turn_enum {P : Program} {w : World} {K : PySem.W.Frag} {elts : List Expr} {kk : Nat} {tpos : Pos} (a e it : Addr) :
    Turn P w K (.Tuple elts kk tpos) (Ite K a) [e, it] e (fun i h => (∃ old, IsEnum h e it ((i : Nat) : Int) old) ∧ h.IsListIter it a i ∧ e ≠ it) where
  mem := by simp
  obj := fun i h st b hb => by
    obtain ⟨⟨old, he⟩, ⟨o, ho, hc, hd⟩, _⟩ := st
    have e' : b = e ∨ b = it := by simpa using hb
    rcases e' with z | z
    · rw [z]; exact ⟨_, he, fun v q => nomatch q⟩
    · rw [z]; exact ⟨o, ho, fun v q => by rw [hd] at q; cases q⟩
  keep := fun i h h' st k => let ⟨⟨old, he⟩, hi, hne⟩ := st; ⟨⟨old, k e (by simp) _ he⟩, hi.at fun o q => k it (by simp) o q, hne⟩
  item := by
    intro X hP hw hK hc i pins s σ H E I hf st hg
    subst hP hw hK
    obtain ⟨⟨old, he⟩, hit, hne⟩ := st
    obtain ⟨xs, x, hq, hx⟩ := hg
    obtain ⟨its, rv, p, hz⟩ := I.list hq
    obtain ⟨u, hu, ru⟩ := rv.get hx
    have hel : e < s.heap.objs.size := Heap.lt_size he
    have hil : it < s.heap.objs.size := by obtain ⟨_, q, _⟩ := hit; exact Heap.lt_size q
    refine wpAny_pyNext_enum_item he hit p.isList (x := u) (by simpa using hu) hne fun h' ho hit' hT hsz hk => ?_
    refine ⟨_, rfl, wpAny_letOwnedTupleGo_enum (s := { s with heap := h', toks := s.toks + 1 }) ho fun h'' he' sb => ?_⟩
    have hT2 : h''.get? s.heap.objs.size = some { cls := .type "tuple", data := .seq #[.int i s.toks, u] } := (sb.2 _ (Nat.ne_of_gt hel)).trans hT
    have new : ObjOk X.prog X.w (upd H s.heap.objs.size (.tup [.int (i : Nat), x])) h'' s.heap.objs.size (.tup [.int (i : Nat), x]) :=
      ⟨by show 2 ≤ sizeLine; decide, [.int i s.toks, u], .cons ⟨_, rfl⟩ (.cons ru .nil), ⟨_, hT2, rfl, _, rfl⟩⟩
    have I1 : Inv X pins σ (upd H s.heap.objs.size (.tup [.int (i : Nat), x])) { s with heap := h'', toks := s.toks + 1 } :=
      I.turnedNew (ch := [e, it]) (fun b ob hb q => (sb.2 b (fun z => hb (by simp [z]))).trans (hk b ob (fun z => hb (by simp [z])) (fun z => hb (by simp [z])) q)) hf (Nat.le_refl _) new
    refine ⟨.ref s.heap.objs.size, _, I1, rfl, ⟨_, x, rfl, I.hok.fresh (Nat.le_refl _), rfl, fun ys hy => by rw [I.list_inj hy hq]; exact hx⟩, ⟨⟨u, ?_⟩, hit'.at fun o q => (sb.2 it (Ne.symm hne)).trans q, hne⟩, fun b hb => ?_⟩
    · have e1 : ((i + 1 : Nat) : Int) = (i : Int) + 1 := by omega
      rw [e1]; exact he'
    · have hb' : b < s.heap.objs.size := by
        have e' : b = e ∨ b = it := by simpa using hb
        rcases e' with z | z
        · rw [z]; exact hel
        · rw [z]; exact hil
      rw [upd_ne (Nat.ne_of_lt hb')]
      exact (hf b hb).1
  done := by
    intro X hP hw hK hc i pins s σ H E I hf st hg
    subst hP hw hK
    obtain ⟨⟨old, he⟩, hit, hne⟩ := st
    obtain ⟨xs, hq, hx⟩ := hg
    obtain ⟨its, rv, p, hz⟩ := I.list hq
    obtain ⟨f0, f1, f2, f3, f4, f5⟩ := hf it (by simp)
    have hl := rv.length
    exact wpAny_pyNext_enum_end (I.ok.hd hc) he hit p.isList (by simp; omega) fun h' eb => ⟨rfl, I.turned (t' := s.toks) (fun b o hb q => eb b o hb q) f0 f1 f3 f4 f5⟩
  self := fun A i s Q E st h => let ⟨⟨_, he⟩, _⟩ := st; wpAny_pyIter_enum he h
def iEnum (K : PySem.W.Frag) (ta : TA) : TI := fun σ H R => ta σ H fun vs H1 => ∃ a xs, vs = [.ref a] ∧ SqL K H1 a xs ∧ R (Ite K a) H1
theorem pi_enum {X : Cx} {e : Expr} {ta : TA} {p pos tpos : Pos} {elts : List Expr} {kk : Nat} (hg : Gl X "enumerate") (hm : X.mg "enumerate" = none) (ha : PA X [e] ta) (hs : starEach [e] X.env = [(false, eval e X.env)] := by rfl) :
    PI X (.Tuple elts kk tpos) (.Call (.Name "enumerate" p) [e] [] pos) (iEnum X.K ta) := by
  intro pins s σ H R I h
  refine Call_ (ld_blt I hg hm boot_enumerate (PyProof.Rows.callWith_type1 (thn (ha pos pins s σ H _ I h) fun us s1 ⟨vs, H1, I1, r1, q1⟩ => ?_) hs rfl))
  obtain ⟨a, xs, ex, hq, q⟩ := q1
  subst ex
  cases r1 with
  | cons r rr =>
    cases rr
    cases r
    obtain ⟨its, rv, p', hz⟩ := I1.list hq
    refine call_enumerate_list p'.isList fun h' he hit hsz hk => wpAny_pyIter_enum he ?_
    have I2 : Inv X pins σ H1 { s1 with heap := h' } := I1.kept (t' := s1.toks) hk
    refine ⟨s1.heap.objs.size + 1, [s1.heap.objs.size + 1, s1.heap.objs.size], _, _, H1, rfl, I2, turn_enum a (s1.heap.objs.size + 1) s1.heap.objs.size, ⟨⟨.none, he⟩, hit, Nat.succ_ne_self _⟩, fun b hb => ?_, q⟩
    have e' : b = s1.heap.objs.size + 1 ∨ b = s1.heap.objs.size := by simpa using hb
    have hle : s1.heap.objs.size ≤ b := by
      rcases e' with z | z
      · rw [z]; exact Nat.le_add_right _ _
      · rw [z]; exact Nat.le_refl _
    exact I1.fpOk hle (I1.hok.fresh hle)
/-! ### zip(list, list) -/
end L2

section 
namespace Bits
open PySem PyProof.Rows

theorem nat_and_mul_pow (k : Nat) : ∀ a b : Nat, a < 2 ^ k → a &&& (b * 2 ^ k) = 0 := by
  induction k with
  | zero =>
    intro a b h
    have h0 : a = 0 := by
      rw [Nat.pow_zero] at h
      omega
    subst h0
    simp
  | succ k ih =>
    intro a b h
    have hm : (b * 2 ^ (k + 1)) = (b * 2 ^ k) * 2 := by rw [Nat.pow_succ, Nat.mul_assoc]
    have hlt : a / 2 < 2 ^ k := by
      rw [Nat.pow_succ] at h
      generalize 2 ^ k = m at h ⊢
      omega
    have i := ih (a / 2) b hlt
    rw [hm]
    generalize b * 2 ^ k = B at i ⊢
    have e : (a &&& (B * 2)) / 2 = a / 2 &&& (B * 2) / 2 := Nat.and_div_two
    have e2 : (B * 2) / 2 = B := by omega
    have o := @Nat.and_mod_two_eq_one a (B * 2)
    rw [e2, i] at e
    omega

theorem natCast_mul_pow (m k : Nat) : (m : Int) * 2 ^ k = ((m * 2 ^ k : Nat) : Int) := by
  rw [two_pow_cast]
  first
    | exact (Int.natCast_mul _ _).symm
    | simp

/-- low bits a, high part b: (b << k) | a -/
theorem bitOr_join {a b : Int} {k : Nat} (h0 : 0 ≤ a) (h1 : a < 2 ^ k) (hb : 0 ≤ b) : Builtin.bitOr a (b * 2 ^ k) = a + b * 2 ^ k := by
  obtain ⟨n, rfl⟩ := Int.eq_ofNat_of_zero_le h0
  obtain ⟨m, rfl⟩ := Int.eq_ofNat_of_zero_le hb
  have hn : n < 2 ^ k := by
    rw [two_pow_cast] at h1
    omega
  have e : Builtin.bitAnd (n : Int) ((m * 2 ^ k : Nat) : Int) = 0 := by
    rw [bitAnd_pp (by omega) (by omega), Int.toNat_natCast, Int.toNat_natCast, nat_and_mul_pow k n m hn] <;> rfl
  rw [natCast_mul_pow, bitOr_and, e]
  omega
theorem bitOr_join' {a b : Int} {k : Nat} (h0 : 0 ≤ a) (h1 : a < 2 ^ k) (hb : 0 ≤ b) : Builtin.bitOr (b * 2 ^ k) a = a + b * 2 ^ k := by
  rw [bitOr_comm]
  exact bitOr_join h0 h1 hb

/-- x & ((1 << k) - 1) -/
theorem bitAnd_mask {x : Int} (k : Nat) (hx : 0 ≤ x) : Builtin.bitAnd x (2 ^ k - 1) = x % 2 ^ k := by
  obtain ⟨n, rfl⟩ := Int.eq_ofNat_of_zero_le hx
  have hp : 0 < 2 ^ k := Nat.two_pow_pos k
  rw [two_pow_cast]
  have e : ((2 ^ k : Nat) : Int) - 1 = ((2 ^ k - 1 : Nat) : Int) := by
    generalize (2 : Nat) ^ k = m at hp
    omega
  rw [e, bitAnd_pp (by omega) (by omega), Int.toNat_natCast, Int.toNat_natCast, Nat.and_two_pow_sub_one_eq_mod]
  first
    | rfl
    | exact Int.natCast_emod _ _
    | simp

theorem nat_xor_add_and (m : Nat) : ∀ n : Nat, (m ^^^ n) + 2 * (m &&& n) = m + n := by
  induction m using Nat.strongRecOn with
  | _ m ih =>
    intro n
    by_cases h0 : m = 0
    · subst h0
      simp
    · have ih' := ih (m / 2) (by omega) (n / 2)
      rw [← Nat.xor_div_two, ← Nat.and_div_two] at ih'
      have o1 := @Nat.xor_mod_two_eq_one m n
      have a1 := @Nat.and_mod_two_eq_one m n
      omega

theorem bitXor_pp {x y : Int} (hx : 0 ≤ x) (hy : 0 ≤ y) : Builtin.bitXor x y = ((x.toNat ^^^ y.toNat : Nat) : Int) := by
  have e := nat_xor_add_and x.toNat y.toNat
  rw [bitXor_and, bitAnd_pp hx hy]
  omega
end Bits
end 

section 
namespace TL
open PySem PySem.Builtin PySem.Builtin.Str PySem.StrLaws

/-! ### the list functions -/
/-! ### the model's split and partition are these -/
/-! ### computing spl and par -/
/-! ### digits -/
/-! ### words: x.split() -/
end TL
end 

namespace L2
open PySem PySem.Spec PyProof.Rows

section
variable {X : Cx} {pins : List (Addr × Obj)} {σ : St} {H : Hp} {s : Shared} {Q : VK}
end

section
variable {X : Cx}

/-! ### of a text alone -/
/-! ### of a text and a text -/
end

section
variable {X : Cx} {o e : Expr} {to te : TE}
end
end L2

namespace L2
open PySem PySem.Spec PyProof.Rows

section
variable {X : Cx}
end

/-! ### slices of a text -/
end L2

namespace Att
open PySem PySem.W PySem.Calls PyProof.Rows

/-! ### the script -/
theorem ints_of_wellAll {P : Params} {h : Heap} : ∀ (ns : List Int) (vs : List Value), WellAll P h vs (ns.map WData.int) → IntsAre vs ns := by
  intro ns
  induction ns with
  | nil =>
    intro vs w
    rw [List.map_nil] at w
    cases w
    exact .nil
  | cons n ns ih =>
    intro vs w
    rw [List.map_cons] at w
    cases w with
    | cons a b =>
      cases a
      exact .cons _ _ (ih _ b)

/-! ### the attachment: holds_open's last premise (the goal 'hc' behind k_head) from a wpAny of the law's body -/
/-! ### rules over ANY heap (no ledger) from facts about the written part K: the library's own take a ledger (News) for what they write -/
section
variable {prog : Program} {w : World} {A : Around} {E : Value → Shared → Prop} {s : Shared} {K : Frag}

/-! the whole heap as the ledger: makes every rule that writes through a ledger a rule over any heap -/
end
end Att

namespace L2
open PySem PySem.Spec PyProof.Rows

theorem vals_ints : ∀ {vs : List Value} {ns : List Int}, IntsAre vs ns → Vals (ns.map V.int) vs
  | _, _, .nil => .nil
  | _, _, .cons n t h => .cons ⟨t, rfl⟩ (vals_ints h)

/-- nothing is tracked but the script, known to the object (or it is an object of the module) -/
def Only (H : Hp) : Prop := ∀ b, H b = none ∨ ∃ o xs, H b = some (.frz o (.lst xs))

end L2

namespace L2
open PySem PySem.Spec PyProof.Rows

abbrev KOf {K : PySem.W.Frag} {h : Heap} (_ : K.In h) : PySem.W.Frag := K

end L2


/-! SHORT WORDS over the layer: a def of the text, its body, what a loop and a test want. -/
namespace L2
open PySem PySem.Spec PyProof.Rows

/-! ### the text by places -/
/-- the j-th statement of a class's body -/
def inClass (s : Stmt) (j : Nat) : Stmt := match s with
  | .ClassDef _ _ _ body _ _ _ _ _ _ _ => body.getD j (.Pass ⟨0, 0, 0, 0⟩)
  | _ => .Pass ⟨0, 0, 0, 0⟩
def defArgs (s : Stmt) : Arguments := match s with
  | .FunctionDef _ a _ _ _ _ _ _ _ _ => a
  | _ => { posonlyargs := [], args := [], vararg := none, kwonlyargs := [], kw_defaults := [], kwarg := none, defaults := [] }
def defBody (s : Stmt) : List Stmt := match s with
  | .FunctionDef _ _ b _ _ _ _ _ _ _ => b
  | _ => []
def defScope (s : Stmt) : Scope := match s with
  | .FunctionDef _ _ _ _ _ _ sc _ _ _ => sc
  | _ => { kind := .function, names := [], isGenerator := false, isCoroutine := false }

/-! ### no exception leaves a def -/
abbrev CX0 : CXT := fun _ _ _ _ _ _ => False
abbrev E0 : XK := fun _ _ _ => False
theorem pass0 {X : Cx} : Passes CX0 X E0 := fun _ _ _ _ _ _ _ h => h.elim

/-! ### a def (or method) of the text as it stands behind the top -/
structure Fun (K : PySem.W.Frag) (x qual : Str) (st : Stmt) (f : Addr) (fd : FuncData) : Prop where
  ex : ∃ (oc : Value) (od : Option Addr) (kV doc pm : Value) (an : Option Addr) (cdv ct : Value) (osl : Array (Option Value)),
    fd = PySem.W.fnOf x qual (defArgs st) (defBody st) (defScope st) .none kV doc pm an cdv ct ∧ K.lookup f = some ⟨oc, od, .func fd, osl⟩ ∧ PySem.W.codeIn K cdv qual = true
  kp : PySem.W.keepIn K (.ref f) = true
section
variable {P : Program} {w : World} {K : PySem.W.Frag} {mg : Str → Option Value} {base : Heap}
/-- THE RULE for a def: its body as a term of rules, and the reading of that term -/
theorem Fun.ok {x qual : Str} {st : Stmt} {f : Addr} {fd : FuncData} {N ps : List Str} {k : Nat} {sp : Sp} (F : Fun K x qual st f fd) (S : FnScope N ps (defScope st)) (len : ∀ vs H Q E, sp vs H Q E → vs.length = ps.length)
    (hbody : ∀ (cdv : Value) (A : Around) (outer : List Env) (s : Shared) (H : Hp) (vs : List V) (Q : VK) (E : XK), Room k (A.deeper (envOfC qual (defScope st) s.heap.objs.size f cdv)) → sp vs H Q E →
      ∃ t, PSs (cxOf CX0 P w K mg base N qual (defScope st) f cdv A outer s H E).nox (defBody st) t ∧ t { nx := fun _ H' => Q .non H', rt := Q } (start N vs) H) : FnOk P w K mg base CX0 (k + 1) f fd ps sp := by
  obtain ⟨oc, od, kV, doc, pm, an, cdv, ct, osl, rfl, lk, hcd⟩ := F.ex
  refine fn_of lk hcd S len fun A outer s H vs Q E hr hsp => ?_
  obtain ⟨t, h, q⟩ := hbody cdv A outer s H vs Q E hr hsp
  exact ⟨t, h.nox, q⟩
/-- how its arguments bind (no defaults): h is «fun _ _ _ _ _ _ us hl => match us, hl with | [_, _], _ => rfl», one _ a parameter -/
theorem Fun.binds {x qual : Str} {st : Stmt} {f : Addr} {fd : FuncData} {ps : List Str} (F : Fun K x qual st f fd)
    (h : ∀ (kV doc pm : Value) (an : Option Addr) (cdv ct : Value) (us : List Value), us.length = ps.length → bindArgs (PySem.W.fnOf x qual (defArgs st) (defBody st) (defScope st) .none kV doc pm an cdv ct) ⟨us, []⟩ = pure (ps.zip us)) : Binds K fd ps [] := by
  obtain ⟨oc, od, kV, doc, pm, an, cdv, ct, osl, rfl, lk, hcd⟩ := F.ex
  exact .all (h kV doc pm an cdv ct)
theorem fun_mk {x qual : Str} {st : Stmt} {f : Addr} {oc : Value} {od an : Option Addr} {osl : Array (Option Value)} {kV doc pm cdv ct : Value} (l : K.lookup f = some ⟨oc, od, .func (PySem.W.fnOf x qual (defArgs st) (defBody st) (defScope st) .none kV doc pm an cdv ct), osl⟩)
    (c : PySem.W.codeIn K cdv qual = true) (k : PySem.W.keepIn K (.ref f) = true) : Fun K x qual st f (PySem.W.fnOf x qual (defArgs st) (defBody st) (defScope st) .none kV doc pm an cdv ct) := ⟨⟨oc, od, kV, doc, pm, an, cdv, ct, osl, rfl, l, c⟩, k⟩
end
theorem hu_of {A : Around} {k : Nat} (hr : Room k A) : A.units + 1 < cLine := Nat.lt_of_le_of_lt (Nat.add_le_add_left (by decide : 1 ≤ 64) _) hr.units
theorem small1000 {n : Nat} (h : n ≤ 1000) : n < sizeLine := Nat.lt_of_le_of_lt h (by decide)

/-! ### expressions in short: the name that stands in the i-th slot -/
section
variable {X : Cx}
theorem pv (i : Nat) {x : Str} {pos : Pos} (hN : X.N[i]? = some x := by rfl) (hv : Vis X.env.scope x := by first | exact Or.inl rfl | exact Or.inr (Or.inl rfl) | exact Or.inr (Or.inr rfl)) (hd : (x == ("__debug__" : Str)) = false := by decide)
    (hcd : (x == ("__classdict__" : Str)) = false := by decide) : PE X (.Name x pos) (tVar i) := pe_var hN hv hd hcd
end

/-! ### tests -/
/-! ### heaps -/
/-- all that was tracked is as it was -/
def Same (H H' : Hp) : Prop := ∀ b o, H b = some o → H' b = some o
theorem Same.refl (H : Hp) : Same H H := fun _ _ h => h
theorem Same.trans {H H1 H2 : Hp} (a : Same H H1) (b : Same H1 H2) : Same H H2 := fun c o h => b c o (a c o h)
theorem Same.free {H H' : Hp} (e : Same H H') {l : Addr} (h : H' l = Option.none) : H l = Option.none := by
  cases q : H l with
  | none => rfl
  | some o =>
    rw [e l o q] at h
    cases h
theorem Same.seq {K : PySem.W.Frag} {H H' : Hp} {a : Addr} {xs : List V} (e : Same H H') (h : SqL K H a xs) : SqL K H' a xs := by
  rcases h with (h | ⟨o, h⟩) | h
  · exact .inl (.inl (e _ _ h))
  · exact .inl (.inr ⟨o, e _ _ h⟩)
  · exact .inr h

/-! ### a dict's pairs: keys that differ -/
section
variable {κ : Type} [DecidableEq κ]
end
/-! ### lists -/
theorem at_of {xs : List V} {z : Int} {j : Nat} {v : V} (e : z = (j : Int)) (h : xs[j]? = some v) : atI xs z = some v := by
  rw [e]
  exact atI_nat h
theorem nd_ix {α : Type} {l : List α} (hN : l.Nodup) {i j : Nat} {x : α} (a : l[i]? = some x) (b : l[j]? = some x) : i = j := by
  obtain ⟨h1, e1⟩ := List.getElem?_eq_some_iff.mp a
  obtain ⟨h2, e2⟩ := List.getElem?_eq_some_iff.mp b
  exact (List.getElem_inj hN).mp (e1.trans e2.symm)
end L2

namespace Ph
open PySem PySem.Spec PyProof.Rows L2
/-! ### rules that the layer lacks -/
section
variable {X : Cx}
/-- // by a positive divisor of some size -/
def CDivL (i j : Int) : Prop := 0 < j ∧ j < 1073741824 * 1073741824
theorem noPylong_mid {x y : Int} (h : y.natAbs < 2 ^ 60) : Builtin.divisionGoesByPylong x y = false := by
  refine PyProof.noPylong_of_log2 ?_
  rcases Nat.eq_zero_or_pos y.natAbs with e | e
  · rw [e]; decide
  · have := (Nat.log2_lt (Nat.pos_iff_ne_zero.mp e)).mpr h
    omega
theorem op_fdivL : OpR X (binaryOp .FloorDiv) (rI CDivL fun i j => .int (i / j)) := opI fun i j _ _ _ _ _ hc q => by
  have h1 : (0 : Int) < j := hc.1
  have h2 : j < 1073741824 * 1073741824 := hc.2
  exact floordiv_int (by omega) (by rw [Int.fdiv_eq_ediv_of_nonneg i (by omega)]; exact q) (.inl (noPylong_mid (by omega)))
/-- << of a number below 2^200 -/
def CShl (i j : Int) : Prop := 0 ≤ j ∧ j ≤ 1000000 ∧ i.natAbs < 2 ^ 200
theorem op_shlL : OpR X (binaryOp .LShift) (rI CShl fun i j => .int (i * 2 ^ j.toNat)) := opI fun i j _ _ _ _ _ hc q => by
  have h1 := hc.1
  have h2 := hc.2.1
  have h3 := PyProof.Rows.intBits_le hc.2.2
  exact lshift_int h1 (by have : (2 : Int) ^ 27 = 134217728 := by decide
                          omega) q
end
/-! ### things of the module -/
section
variable {X : Cx}
theorem pe_gI {x : Str} {i : Int} {pos : Pos} (hg : Gl X x) (hm : ∃ t, X.mg x = some (.int i t)) (hd : (x == ("__debug__" : Str)) = false := by decide) : PE X (.Name x pos) (tC (.int i)) := by
  obtain ⟨t, hm⟩ := hm
  exact pe_glob hg hm ⟨t, rfl⟩ hd
end
/-- a tuple of ints -/
def TupK (K : PySem.W.Frag) (a : Addr) (ns : List Int) : Prop :=
  ∃ (o : Obj) (its : Array Value) (n : Nat), K.lookup a = some o ∧ o.cls = .type "tuple" ∧ o.data = .seq its n ∧ its.size ≤ sizeLine ∧ Vals (ns.map V.int) its.toList
theorem TupK.sq {K : PySem.W.Frag} {a : Addr} {ns : List Int} (h : TupK K a ns) (H : Hp) : SqT K H a (ns.map V.int) := .inr h
/-- a dict of ints -/
def DctK (K : PySem.W.Frag) (a : Addr) (kvs : List (Int × Int)) : Prop :=
  ∃ (o : Obj) (es : Array DictEntry) (ep : Nat), K.lookup a = some o ∧ o.ExactDict ∧ o.data = .dict es ep ∧ (a == sysModules) = false ∧
    Paired (fun (p : Int × Int) (e : DictEntry) => e.hash = hashInt p.1 ∧ (∃ t, e.key = .int p.1 t) ∧ ∃ t, e.val = .int p.2 t) kvs es.toList ∧ (kvs.map (·.1)).Nodup
def lookI (kvs : List (Int × Int)) (i : Int) : Option Int := (kvs.find? fun kv => decide (kv.1 = i)).map (·.2)
def RelI : Option Int → Option Value → Prop
  | some v, some u => ∃ t, u = .int v t
  | none, none => True
  | _, _ => False
theorem pairs_mk {P : Program} {w : World} : ∀ {kvs : List (Int × Int)} {es : List DictEntry}, Paired (fun (p : Int × Int) (e : DictEntry) => e.hash = hashInt p.1 ∧ (∃ t, e.key = .int p.1 t) ∧ ∃ t, e.val = .int p.2 t) kvs es →
    ∃ vs : List (Int × Value), Pairs (intKind P w) es vs ∧ vs.map (·.1) = kvs.map (·.1) ∧ (∀ k, RelI (lookI kvs k) (valueAt vs k)) ∧ ∀ e ∈ es, ∃ k, (intKind P w).is k e.key = true ∧ e.hash = (intKind P w).hash k
  | _, _, .nil => ⟨[], .nil, rfl, fun k => trivial, fun e he => by simp at he⟩
  | p :: _, e :: _, .cons r t => by
    obtain ⟨h1, ⟨t1, h2⟩, t2, h3⟩ := r
    obtain ⟨vs, a, b, c, d⟩ := pairs_mk (P := P) (w := w) t
    have hk : (intKind P w).is p.1 e.key = true := by rw [h2]; exact keyIs_int p.1 t1
    refine ⟨(p.1, e.val) :: vs, .cons hk rfl a, by rw [List.map_cons, List.map_cons, b], fun k => ?_, fun e' he => ?_⟩
    · unfold lookI valueAt
      rw [List.find?_cons, List.find?_cons]
      by_cases q : p.1 = k
      · rw [decide_eq_true q]
        exact ⟨t2, h3⟩
      · rw [decide_eq_false q]
        exact c k
    · rcases List.mem_cons.mp he with z | z
      · subst z
        exact ⟨p.1, hk, h1⟩
      · exact d e' z
theorem DctK.of {P : Program} {w : World} {K : PySem.W.Frag} {a : Addr} {kvs : List (Int × Int)} {h : Heap} (d : DctK K a kvs) (k : K.In h) : ∃ vs : List (Int × Value), h.DictOf (intKind P w) a vs ∧ (a == sysModules) = false ∧ ∀ k, RelI (lookI kvs k) (valueAt vs k) := by
  obtain ⟨o, es, ep, h1, h2, h3, h4, h5, h6⟩ := d
  obtain ⟨vs, a1, b1, c1, d1⟩ := pairs_mk (P := P) (w := w) h5
  exact ⟨vs, ⟨o, es, ep, k a o h1, h2, h3, fun e he => d1 e (by simpa using he), a1, by rw [b1]; exact h6⟩, h4, c1⟩
def optI : Option Int → V
  | some v => .int v
  | none => .non
theorem RelI.rel {o : Option Int} {u : Option Value} (r : RelI o u) : RelV (optI o) (u.getD .none) := by
  cases o with
  | none =>
    cases u with
    | none => rfl
    | some _ => exact False.elim r
  | some v =>
    cases u with
    | none => exact False.elim r
    | some _ => exact r
/-- D.get(e), D a dict of the module -/
def tKGet (kvs : List (Int × Int)) (ty : TE) : TE := fun σ H Q => ty σ H fun y H1 => ∃ i, y = .int i ∧ Q (optI (lookI kvs i)) H1
section
variable {X : Cx} {e : Expr} {apos cpos p : Pos} {ty : TE} {x : Str} {a : Addr} {kvs : List (Int × Int)}
theorem pe_kget (hu : X.A.units + 1 < cLine) (hg : Gl X x) (hm : X.mg x = some (.ref a)) (d : DctK X.K a kvs) (he : PE X e ty) (m : M1 X (.Name x p) "get" apos e cpos) (hd : (x == ("__debug__" : Str)) = false := by decide) :
    PE X (.Call (.Attribute (.Name x p) "get" apos) [e] [] cpos) (tKGet kvs ty) := by
  intro pins s σ H Q I h
  refine wpAny_Call_method m.base m.few m.line PySem.F.plainAttrs_dict PySem.F.slot_dict_get PySem.F.type_dict_get (ld_glob I hg hm ?_ hd)
  obtain ⟨vs, dd, h4, c⟩ := d.of (P := X.prog) (w := X.w) I.kIn
  refine ⟨dd.typeIs, fun b q => ?_, ?_⟩
  · cases q
    obtain ⟨ob, _, _, h1, h2, _⟩ := dd
    exact ⟨ob, h1, h2.2.1⟩
  · rw [m.trees]
    refine Calls.callWith_builtin rfl (Calls.evalArgs_plain (Calls.spliced_cons (thn (he pins s σ H _ I h) fun iv s2 ⟨y, H2, I2, ry, i, ei, q2⟩ => Calls.spliced_nil ?_)))
    subst ei
    obtain ⟨t, rfl⟩ := ry
    obtain ⟨vs, dd, h4, c⟩ := d.of (P := X.prog) (w := X.w) I2.kIn
    exact call_meetsIn PySem.F.slot_dict_get dd.typeIs PySem.F.entry_dict_get (PySem.F.args_dict_get_2 _ _) (meets_dict_get (intKind X.prog X.w) a (k := i) (keyIs_int i t) h4) ⟨_, dd.mapOf, _, H2, I2.tok _, (c i).rel, q2⟩
end
/-! ### loops, their heads pure -/
section
variable {K : PySem.W.Frag} {g : TG} {tb : TS} {D : Ends} {σ : L2.St} {H : Hp}
theorem lp_rng3 {ta : TA} (i j c : Int) (n : Nat) (ht : ∀ R : List V → Hp → Prop, R [.int i, .int j, .int c] H → ta σ H R) (hc : RgC i j c n)
    (h : ∃ W : Nat → Nat → L2.St → Hp → Prop, (∃ m, W 0 m σ H) ∧ ∀ i' m σ H, W i' m σ H →
      ((Itc i c n).stop i' H ∧ D.nx σ H) ∨ ((Itc i c n).go i' H ∧ ∃ N : L2.St → Hp → Prop, (∀ σ' H', N σ' H' → ∃ m', m' < m ∧ W (i' + 1) m' σ' H') ∧ ∀ x H', (Itc i c n).yld i' H x H' → g x σ H' fun σ2 H2 => tb { D with nx := N, ct := N, bk := D.nx } σ2 H2)) :
    tFor (iRng3 ta) g tb D σ H := ht _ ⟨i, j, c, n, rfl, hc, h⟩
theorem lp_rng1 {ta : TA} (j : Int) (n : Nat) (ht : ∀ R : List V → Hp → Prop, R [.int j] H → ta σ H R) (hj : j = (n : Int)) (hn : n < 4000000000000000000)
    (h : ∃ W : Nat → Nat → L2.St → Hp → Prop, (∃ m, W 0 m σ H) ∧ ∀ i' m σ H, W i' m σ H →
      ((Itr 0 n).stop i' H ∧ D.nx σ H) ∨ ((Itr 0 n).go i' H ∧ ∃ N : L2.St → Hp → Prop, (∀ σ' H', N σ' H' → ∃ m', m' < m ∧ W (i' + 1) m' σ' H') ∧ ∀ x H', (Itr 0 n).yld i' H x H' → g x σ H' fun σ2 H2 => tb { D with nx := N, ct := N, bk := D.nx } σ2 H2)) :
    tFor (iRng1 ta) g tb D σ H := by
  have e : j.toNat = n := by omega
  have e62 : (2 : Int) ^ 62 = 4611686018427387904 := by decide
  exact ht _ ⟨j, rfl, by omega, by omega, by rw [e]; exact h⟩
theorem lp_tup {tl : TE} (a : Addr) (xs : List V) (ht : ∀ R : V → Hp → Prop, R (.ref a) H → tl σ H R) (hs : SqT K H a xs)
    (h : ∃ W : Nat → Nat → L2.St → Hp → Prop, (∃ m, W 0 m σ H) ∧ ∀ i' m σ H, W i' m σ H →
      ((Itt K a).stop i' H ∧ D.nx σ H) ∨ ((Itt K a).go i' H ∧ ∃ N : L2.St → Hp → Prop, (∀ σ' H', N σ' H' → ∃ m', m' < m ∧ W (i' + 1) m' σ' H') ∧ ∀ x H', (Itt K a).yld i' H x H' → g x σ H' fun σ2 H2 => tb { D with nx := N, ct := N, bk := D.nx } σ2 H2)) :
    tFor (iTup K tl) g tb D σ H := ht _ ⟨a, rfl, ⟨xs, hs⟩, h⟩
theorem lp_list {tl : TE} (a : Addr) (xs : List V) (ht : ∀ R : V → Hp → Prop, R (.ref a) H → tl σ H R) (hs : SqL K H a xs)
    (h : ∃ W : Nat → Nat → L2.St → Hp → Prop, (∃ m, W 0 m σ H) ∧ ∀ i' m σ H, W i' m σ H →
      ((Itl K a).stop i' H ∧ D.nx σ H) ∨ ((Itl K a).go i' H ∧ ∃ N : L2.St → Hp → Prop, (∀ σ' H', N σ' H' → ∃ m', m' < m ∧ W (i' + 1) m' σ' H') ∧ ∀ x H', (Itl K a).yld i' H x H' → g x σ H' fun σ2 H2 => tb { D with nx := N, ct := N, bk := D.nx } σ2 H2)) :
    tFor (iList K tl) g tb D σ H := ht _ ⟨a, rfl, ⟨xs, hs⟩, h⟩
end
end Ph

namespace Ph
open PySem L2
/-! ### the words of the rules, in bundles -/
def rdA := And.intro @tFld.eq_1 <| And.intro @sFld.eq_1 <| And.intro @tMeth.eq_1 <| And.intro @tMake.eq_1 <| And.intro @tRet.eq_1 <| And.intro @tRetN.eq_1 <| And.intro @tSeq.eq_1 <| And.intro @tNext.eq_1 <| And.intro @tDrop.eq_1 <| And.intro @tIfS.eq_1 <| And.intro @tOp.eq_1 <| And.intro @tUn.eq_1 <|
  And.intro @tVar.eq_1 <| And.intro @tC.eq_1 <| And.intro @rI.eq_1 <| And.intro @rI0.eq_1 <| And.intro @rU.eq_1 <| And.intro @tTest.eq_1 <| And.intro @tB.eq_1 <| And.intro @tAsg.eq_1 <| And.intro @gName.eq_1 <| And.intro @tAug.eq_1 <| And.intro @ipI.eq_1 <| And.intro @tCall.eq_1 <|
  And.intro @tCons.eq_1 <| And.intro @tNil.eq_1 <| And.intro @tOr.eq_1 <| And.intro @tAnd.eq_1 <| And.intro @tNot.eq_1 <| And.intro @tIf.eq_1 <| And.intro @tCB.eq_1 @L2.start.eq_1
def rdB := And.intro @List.map_cons.{0, 0} <| And.intro @List.map_nil.{0, 0} <| And.intro @List.append_nil.{0} <| And.intro @List.cons_append.{0} <| And.intro @List.nil_append.{0} <| And.intro @List.length_cons.{0} <| And.intro @List.length_nil.{0} <| And.intro @List.getElem?_cons_zero.{0} <|
  And.intro @List.getElem?_cons_succ.{0} <| And.intro @List.set_cons_zero.{0} <| And.intro @List.set_cons_succ.{0} <| And.intro @Option.some.injEq.{0} <| And.intro @V.int.injEq <| And.intro @V.bl.injEq <| And.intro @V.ref.injEq <| And.intro @List.cons.injEq.{0} <|
  And.intro @and_true <| And.intro @true_and <| And.intro @exists_eq_left.{1} <| And.intro @exists_eq_left'.{1} <| And.intro @exists_and_left.{1} <| And.intro @exists_and_right.{1} <| And.intro @exists_eq.{1} <| And.intro @exists_eq'.{1} @and_assoc
end Ph

namespace Ph
open Ql35
/-! ### The rest -/
theorem tb_xor (a b k : Nat) : (a ^^^ b).testBit k = (a.testBit k ^^ b.testBit k) := Nat.testBit_xor a b k
theorem rest_xor : ∀ (k a b : Nat), rest k (a ^^^ b) = rest k a ^^^ rest k b
  | 0, a, b => rfl
  | k + 1, a, b => by
    unfold rest
    rw [tb_xor]
    cases ha : a.testBit (k + 24) <;> cases hb : b.testBit (k + 24) <;> simp <;> rw [← rest_xor] <;> congr 1
    · rw [Nat.xor_assoc]
    · rw [Nat.xor_assoc, Nat.xor_comm b, Nat.xor_assoc, Nat.xor_comm _ b]
    · have e : a ^^^ POLY * 2 ^ k ^^^ (b ^^^ POLY * 2 ^ k) = a ^^^ b ^^^ (POLY * 2 ^ k ^^^ POLY * 2 ^ k) := by
        rw [Nat.xor_assoc, Nat.xor_comm (POLY * 2 ^ k) (b ^^^ POLY * 2 ^ k), Nat.xor_assoc b, ← Nat.xor_assoc]
      rw [e, Nat.xor_self, Nat.xor_zero]
theorem sum_xor (w a b : Nat) : sum w (a ^^^ b) = sum w a ^^^ sum w b := rest_xor _ _ _
/-- the rest of one bit alone, step by step -/
def lone : Nat → Nat
  | 0 => 1
  | p + 1 => if (lone p * 2) &&& 16777216 ≠ 0 then (lone p * 2) ^^^ POLY else lone p * 2
/-- the same with what was there before handed on -/
def lones : Nat → Nat → List Nat
  | 0, _ => []
  | k + 1, x => x :: lones k (if (x * 2) &&& 16777216 ≠ 0 then (x * 2) ^^^ POLY else x * 2)
theorem lones_get : ∀ (k p i : Nat), i < k → (lones k (lone p))[i]? = some (lone (p + i))
  | k + 1, p, 0, _ => rfl
  | k + 1, p, i + 1, h => by
    show (lones k (lone (p + 1)))[i]? = _
    rw [lones_get k (p + 1) i (by omega)]
    congr 2
    omega
def tab : List Nat := lones 112 1
theorem tab_get {p : Nat} (h : p < 112) : tab[p]? = some (lone p) := by
  have e := lones_get 112 0 p h
  rw [Nat.zero_add] at e
  exact e
def chk (w : Nat) : List Nat → Nat → Bool
  | [], _ => true
  | x :: r, p => (sum w (2 ^ p) == x) && (x != 0) && decide (x < 16777216) && chk w r (p + 1)
theorem chk_get (w : Nat) : ∀ (l : List Nat) (p i x : Nat), chk w l p = true → l[i]? = some x → sum w (2 ^ (p + i)) = x ∧ x ≠ 0 ∧ x < 16777216
  | y :: r, p, 0, x, h, e => by
    simp [chk] at h
    simp at e
    subst e
    exact ⟨h.1.1.1, h.1.1.2, h.1.2⟩
  | y :: r, p, i + 1, x, h, e => by
    simp [chk] at h
    have z := chk_get w r (p + 1) i x h.2 e
    have e2 : p + 1 + i = p + (i + 1) := by omega
    rw [e2] at z
    exact z
theorem chk112 : chk 112 tab 0 = true := by decide +kernel
theorem chk56 : chk 56 (tab.take 56) 0 = true := by decide +kernel
theorem tab_nd : tab.Nodup := by decide +kernel
theorem lone_sum112 {p : Nat} (h : p < 112) : sum 112 (2 ^ p) = lone p := by
  have z := chk_get 112 tab 0 p _ chk112 (tab_get h)
  rw [Nat.zero_add] at z
  exact z.1
theorem lone_sum56 {p : Nat} (h : p < 56) : sum 56 (2 ^ p) = lone p := by
  have e : (tab.take 56)[p]? = some (lone p) := by
    rw [List.getElem?_take, if_pos h]
    exact tab_get (by omega)
  have z := chk_get 56 (tab.take 56) 0 p _ chk56 e
  rw [Nat.zero_add] at z
  exact z.1
theorem lone_lt {p : Nat} (h : p < 112) : lone p < 16777216 := by
  have z := chk_get 112 tab 0 p _ chk112 (tab_get h)
  exact z.2.2
theorem lone_ne {p : Nat} (h : p < 112) : lone p ≠ 0 := by
  have z := chk_get 112 tab 0 p _ chk112 (tab_get h)
  exact z.2.1
theorem lone_inj {p q : Nat} (hp : p < 112) (hq : q < 112) (e : lone p = lone q) : p = q := by
  have a := tab_get hp
  have b := tab_get hq
  rw [e] at a
  obtain ⟨h1, e1⟩ := List.getElem?_eq_some_iff.mp a
  obtain ⟨h2, e2⟩ := List.getElem?_eq_some_iff.mp b
  have nd := List.pairwise_iff_getElem.mp tab_nd
  rcases Nat.lt_trichotomy p q with z | z | z
  · exact absurd (e1.trans e2.symm) (nd p q h1 h2 z)
  · exact z
  · exact absurd (e2.trans e1.symm) (nd q p h2 h1 z)
theorem lone_sum {w p : Nat} (hw : w = 56 ∨ w = 112) (h : p < w) : sum w (2 ^ p) = lone p := by
  rcases hw with rfl | rfl
  · exact lone_sum56 h
  · exact lone_sum112 h
theorem xor_zero_iff {a b : Nat} : a ^^^ b = 0 ↔ a = b := by
  constructor
  · intro h
    have e : a ^^^ b ^^^ b = b := by rw [h, Nat.zero_xor]
    rw [Nat.xor_assoc, Nat.xor_self, Nat.xor_zero] at e
    exact e
  · rintro rfl
    exact Nat.xor_self _
/-- the search from the lowest power up -/
def turnedAt (w m : Nat) : Option Nat := (List.range (w - 5)).find? fun p => decide (lone p = sum w m)
theorem mended_eq {w m : Nat} (hw : w = 56 ∨ w = 112) (h0 : sum w m ≠ 0) : mended w m = (turnedAt w m).map fun p => m ^^^ 2 ^ p := by
  unfold mended
  rw [if_neg h0]
  have hx : ∀ i, 5 ≤ i → i < w → (sum w (m ^^^ 2 ^ (w - 1 - i)) = 0 ↔ lone (w - 1 - i) = sum w m) := by
    intro i h5 hi
    rw [sum_xor, lone_sum hw (by omega), xor_zero_iff]
    exact eq_comm
  cases e : turnedAt w m with
  | none =>
    unfold turnedAt at e
    rw [List.find?_eq_none] at e
    show _ = none
    rw [List.findSome?_eq_none_iff]
    intro i hi
    obtain ⟨j, hj, rfl⟩ : ∃ j, j < w - 5 ∧ i = 5 + j := by
      rw [List.mem_drop_iff_getElem] at hi
      obtain ⟨j, hj, e⟩ := hi
      simp at hj e
      exact ⟨j, by omega, by omega⟩
    have z := e (w - 1 - (5 + j)) (List.mem_range.mpr (by omega))
    simp at z
    have z2 : ¬ sum w (m ^^^ 2 ^ (w - 1 - (5 + j))) = 0 := fun q => z ((hx _ (by omega) (by omega)).mp q)
    simp [z2]
  | some p =>
    unfold turnedAt at e
    have hp : p < w - 5 := List.mem_range.mp (List.mem_of_find?_eq_some e)
    have hq : lone p = sum w m := by
      have := List.find?_some e
      exact of_decide_eq_true this
    show _ = some (m ^^^ 2 ^ p)
    rw [List.findSome?_eq_some_iff]
    refine ⟨((List.range w).drop 5).take (w - 1 - p - 5), w - 1 - p, ((List.range w).drop 5).drop (w - 1 - p - 5 + 1), ?_, ?_, ?_⟩
    · have hl : w - 1 - p - 5 < ((List.range w).drop 5).length := by simp; omega
      have hc := List.drop_eq_getElem_cons hl
      have hg : ((List.range w).drop 5)[w - 1 - p - 5] = w - 1 - p := by
        simp
        omega
      rw [hg] at hc
      rw [← hc, List.take_append_drop]
    · have e2 : w - 1 - (w - 1 - p) = p := by omega
      have z : sum w (m ^^^ 2 ^ (w - 1 - (w - 1 - p))) = 0 := (hx _ (by omega) (by omega)).mpr (by rw [e2]; exact hq)
      show (if sum w (m ^^^ 2 ^ (w - 1 - (w - 1 - p))) = 0 then some (m ^^^ 2 ^ (w - 1 - (w - 1 - p))) else none) = _
      rw [if_pos z, e2]
    · intro i hi
      obtain ⟨j, hj, rfl⟩ : ∃ j, j < w - 1 - p - 5 ∧ i = 5 + j := by
        rw [List.mem_take_iff_getElem] at hi
        obtain ⟨j, hj, e⟩ := hi
        simp at hj e
        exact ⟨j, by omega, by omega⟩
      have z2 : ¬ sum w (m ^^^ 2 ^ (w - 1 - (5 + j))) = 0 := fun q => by
        have := (hx _ (by omega) (by omega)).mp q
        have := lone_inj (by omega) (by omega) (this.trans hq.symm)
        omega
      show (if sum w (m ^^^ 2 ^ (w - 1 - (5 + j))) = 0 then some (m ^^^ 2 ^ (w - 1 - (5 + j))) else none) = none
      rw [if_neg z2]
end Ph

namespace Ph
open Ql35
/-! ### Codes of thirteen bits -/
def picked (code : Nat) (spots : List Nat) : Nat := spots.foldl (fun n s => 2 * n + bits 13 code s 1) 0
def hundredsPy (code : Nat) : Option Int :=
  let five := gray (picked code [11, 13, 2, 4, 6, 8, 10, 12])
  let h := gray (picked code [1, 3, 5])
  if h = 0 ∨ h = 5 ∨ h = 6 then none
  else some (500 * (five : Int) + 100 * (if five % 2 = 1 then 6 - ((if h = 7 then 5 else h : Nat) : Int) else ((if h = 7 then 5 else h : Nat) : Int)) - 1300)
def heightPy (code : Nat) : Option Int :=
  if code = 0 ∨ picked code [7] = 1 then none
  else if picked code [9] = 1 then some ((picked code [1, 2, 3, 4, 5, 6, 8, 10, 11, 12, 13] : Int) * 25 - 1000)
  else hundredsPy code
def identityPy (code : Nat) : Nat :=
  1000 * picked code [6, 4, 2] + 100 * picked code [12, 10, 8] + 10 * picked code [5, 3, 1] + picked code [13, 11, 9]
def every (p : Nat → Bool) : Nat → Bool
  | 0 => true
  | n + 1 => p n && every p n
theorem every_get (p : Nat → Bool) : ∀ (n i : Nat), every p n = true → i < n → p i = true
  | n + 1, i, h, hi => by
    simp [every] at h
    rcases Nat.lt_or_ge i n with z | z
    · exact every_get p n i h.2 z
    · have e : i = n := by omega
      subst e
      exact h.1
theorem every2_get (p : Nat → Bool) (a b i : Nat) (h : every (fun x => every (fun y => p (x * b + y)) b) a = true) (hi : i < a * b) (hb : 0 < b) : p i = true := by
  have h1 := every_get _ a (i / b) h (Nat.div_lt_of_lt_mul (by rw [Nat.mul_comm]; exact hi))
  have h2 := every_get _ b (i % b) h1 (Nat.mod_lt _ hb)
  have e : i / b * b + i % b = i := by rw [Nat.mul_comm]; exact Nat.div_add_mod i b
  simp only [e] at h2
  exact h2
theorem height_all : every (fun x => every (fun y => decide (heightPy (x * 128 + y) = height13 (x * 128 + y))) 128) 64 = true := by decide +kernel
theorem height_eq {c : Nat} (h : c < 8192) : heightPy c = height13 c :=
  of_decide_eq_true (every2_get (fun c => decide (heightPy c = height13 c)) 64 128 c height_all h (by decide))
theorem identity_all : every (fun x => every (fun y => decide (identityPy (x * 128 + y) = identity (x * 128 + y))) 128) 64 = true := by decide +kernel
theorem identity_eq {c : Nat} (h : c < 8192) : identityPy c = identity c :=
  of_decide_eq_true (every2_get (fun c => decide (identityPy c = identity c)) 64 128 c identity_all h (by decide))
theorem gray_step_all : every (fun n => decide (gray n = n ^^^ gray (n / 2))) 256 = true := by decide +kernel
theorem gray_step {n : Nat} (h : n < 256) : gray n = n ^^^ gray (n / 2) := of_decide_eq_true (every_get _ 256 n gray_step_all h)
theorem gray_lt_all : every (fun n => decide (gray n < 256)) 256 = true := by decide +kernel
theorem gray_lt {n : Nat} (h : n < 256) : gray n < 256 := of_decide_eq_true (every_get _ 256 n gray_lt_all h)
theorem bits_lt (w m a n : Nat) : bits w m a n < 2 ^ n := Nat.mod_lt _ (Nat.two_pow_pos n)
theorem picked_fold_lt (code : Nat) : ∀ (l : List Nat) (n k : Nat), n < 2 ^ k → l.foldl (fun n s => 2 * n + bits 13 code s 1) n < 2 ^ (k + l.length)
  | [], n, k, h => h
  | s :: l, n, k, h => by
    have z := picked_fold_lt code l (2 * n + bits 13 code s 1) (k + 1) (by
      have := bits_lt 13 code s 1
      have e : 2 ^ (k + 1) = 2 * 2 ^ k := by rw [Nat.pow_succ]; omega
      rw [e]
      omega)
    have e : k + 1 + l.length = k + (s :: l).length := by simp; omega
    rw [e] at z
    exact z
theorem picked_lt (code : Nat) (l : List Nat) : picked code l < 2 ^ l.length := by
  have z := picked_fold_lt code l 0 0 (by decide)
  rw [Nat.zero_add] at z
  exact z
end Ph

namespace Ph
open Ql35
/-! ### Places -/
/-- zones of longitude, edge by edge -/
def edgeHit (z : Nat) (n : Int) (t : Nat) : Bool := decide (t * (z * 2 ^ 17) ≤ n.natAbs * 360 * 10 ^ 8)
def zonesBy (z : Nat) (n : Int) (l : List Nat) : Int := 59 - ((l.filter (edgeHit z n)).length : Int)
theorem zonesBy_nil (z : Nat) (n : Int) : zonesBy z n [] = 59 := rfl
theorem zonesBy_snoc (z : Nat) (n : Int) (l : List Nat) (t : Nat) : zonesBy z n (l ++ [t]) = if edgeHit z n t = true then zonesBy z n l - 1 else zonesBy z n l := by
  unfold zonesBy
  rw [List.filter_append]
  cases h : edgeHit z n t <;> simp [h] <;> omega
theorem lats_len : LATS.length = 58 := by decide
theorem zones_eq (z : Nat) (n : Int) : zonesBy z n LATS = (zones z n : Int) := by
  unfold zonesBy zones
  have h : (LATS.filter (edgeHit z n)).length ≤ 58 := by
    have := List.length_filter_le (edgeHit z n) LATS
    rw [lats_len] at this
    exact this
  show (59 : Int) - ((LATS.filter (edgeHit z n)).length : Int) = ((59 - (LATS.filter (edgeHit z n)).length : Nat) : Int)
  omega
theorem zones_le (z : Nat) (n : Int) : zones z n ≤ 59 := by
  unfold zones
  omega
theorem zones_pos (z : Nat) (n : Int) : 1 ≤ zones z n := by
  unfold zones
  have h := List.length_filter_le (edgeHit z n) LATS
  rw [lats_len] at h
  show 1 ≤ 59 - (LATS.filter (edgeHit z n)).length
  omega
theorem edge_py {z : Nat} {n : Int} {t : Nat} {size circle : Int} (hs : size = (if n < 0 then -n else n) * 36000000000) (hc : circle = (z : Int) * 131072) : (decide ((t : Int) * circle ≤ size)) = edgeHit z n t := by
  unfold edgeHit
  have e1 : (if n < 0 then -n else n) = (n.natAbs : Int) := by split <;> omega
  rw [e1] at hs
  apply decide_eq_decide.mpr
  have e2 : ((t * (z * 2 ^ 17) : Nat) : Int) = (t : Int) * circle := by
    rw [hc]
    show ((t * (z * 131072) : Nat) : Int) = _
    rw [Int.natCast_mul, Int.natCast_mul]
    rfl
  have e3 : ((n.natAbs * 360 * 10 ^ 8 : Nat) : Int) = size := by
    rw [hs]
    show ((n.natAbs * 360 * 100000000 : Nat) : Int) = _
    omega
  rw [← e2, ← e3]
  exact Int.ofNat_le
theorem half_eq : HALF = 131072 := by decide
theorem near_py (n : Int) : (n + 65536) / 131072 = near n := by
  unfold near
  rw [half_eq]
  omega
/-- the latitude's parts by the program's words -/
theorem lat_py (z : Nat) (j y : Int) : lat z j y = if 3 * ((z : Int) * 131072) ≤ (j % (z : Int) * 131072 + y) * 4 then j % (z : Int) * 131072 + y + -1 * ((z : Int) * 131072) else j % (z : Int) * 131072 + y := by
  unfold lat
  rw [half_eq]
  dsimp only
  have e : (3 * (z : Int) * 131072 ≤ 4 * (j % (z : Int) * 131072 + y)) ↔ (3 * ((z : Int) * 131072) ≤ (j % (z : Int) * 131072 + y) * 4) := by omega
  by_cases h : 3 * ((z : Int) * 131072) ≤ (j % (z : Int) * 131072 + y) * 4
  · rw [if_pos h, if_pos (e.mpr h)]; omega
  · rw [if_neg h, if_neg (fun q => h (e.mp q))]
theorem beyond_py (z : Nat) (n : Int) : (decide (((z : Int) * 131072) < (if n < 0 then -n else n) * 4)) = decide (4 * n.natAbs > z * 2 ^ 17) := by
  apply decide_eq_decide.mpr
  split <;> omega
/-- a longitude turned into -180 .. 180 -/
def turned (z : Nat) (e : Int) : Int := let w := (z : Int) * 131072
  if w ≤ 2 * e then e - w else if 2 * e < -w then e + w else e
theorem lat_range {z : Nat} {j y : Int} (hz : 0 < z) (h0 : 0 ≤ y) (h1 : y < 131072) : -((z : Int) * 131072) ≤ lat z j y ∧ lat z j y < (z : Int) * 131072 := by
  rw [lat_py]
  have a := Int.emod_nonneg j (show (z : Int) ≠ 0 by omega)
  have b := Int.emod_lt_of_pos j (show (0 : Int) < z by omega)
  split <;> omega
/-- the parts of the nearest, by the program's words -/
theorem nearest_py (p y : Int) : (2 * (p - y) + HALF) / (2 * HALF) * HALF + y = p + (if 65536 < (y - p) % 131072 then (y - p) % 131072 - 131072 else (y - p) % 131072) := by
  rw [half_eq]
  split <;> omega
theorem turned_nonneg {z : Nat} {e : Int} (h : 0 ≤ e) : turned z e = if (z : Int) * 131072 ≤ 2 * e then e - (z : Int) * 131072 else e := by
  unfold turned
  dsimp only
  split
  · rfl
  · rw [if_neg (by omega)]
/-- a place out of two halves, by the program's words -/
theorem place_py (y0 x0 y1 x1 : Int) (odd : Bool) (h0 : 0 ≤ x0) (h1 : 0 ≤ x1) :
    place y0 x0 y1 x1 odd =
      (let j := near (59 * y0 - 60 * y1)
      let n0 := lat 60 j y0
      let n1 := lat 59 j y1
      if 4 * n0.natAbs > 60 * 2 ^ 17 ∨ 4 * n1.natAbs > 59 * 2 ^ 17 then none
      else if zones 59 n1 ≠ zones 60 n0 then none
      else
        let k := zones 60 n0
        let m := near (x0 * ((k : Int) - 1) - x1 * k)
        let z := max 1 (k - odd.toNat)
        some (if odd = true then tenth 59 n1 else tenth 60 n0, tenth z (turned z (m % (z : Int) * 131072 + (if odd = true then x1 else x0))))) := by
  unfold place
  dsimp only
  generalize near (59 * y0 - 60 * y1) = j
  generalize lat 60 j y0 = n0
  generalize lat 59 j y1 = n1
  by_cases c1 : 4 * n0.natAbs > 60 * 2 ^ 17
  · rw [if_pos (.inl c1), if_pos (.inl c1)]
  · by_cases c2 : 4 * n1.natAbs > 59 * 2 ^ 17
    · rw [if_pos (.inr (.inl c2)), if_pos (.inr c2)]
    · by_cases c3 : zones 60 n0 ≠ zones 59 n1
      · rw [if_pos (.inr (.inr c3)), if_neg (by intro q; exact q.elim c1 c2), if_pos (fun e => c3 e.symm)]
      · have d1 : ¬ (4 * n0.natAbs > 60 * 2 ^ 17 ∨ 4 * n1.natAbs > 59 * 2 ^ 17 ∨ zones 60 n0 ≠ zones 59 n1) := by
          intro q
          rcases q with q | q | q
          · exact c1 q
          · exact c2 q
          · exact c3 q
        have d2 : ¬ (4 * n0.natAbs > 60 * 2 ^ 17 ∨ 4 * n1.natAbs > 59 * 2 ^ 17) := fun q => q.elim c1 c2
        have d3 : ¬ zones 59 n1 ≠ zones 60 n0 := fun q => c3 fun e => q e.symm
        rw [if_neg d1, if_neg d2, if_neg d3]
        have hz : (0 : Int) < ((max 1 (zones 60 n0 - odd.toNat) : Nat) : Int) := by omega
        generalize max 1 (zones 60 n0 - odd.toNat) = z at hz ⊢
        generalize near (x0 * ((zones 60 n0 : Int) - 1) - x1 * zones 60 n0) = m
        have hm := Int.emod_nonneg m (show (z : Int) ≠ 0 by omega)
        have he : 0 ≤ m % (z : Int) * 131072 + (if odd = true then x1 else x0) := by split <;> omega
        rw [turned_nonneg he, half_eq]
/-- a place near a known one, by the program's words -/
theorem near_py2 (la lo y x : Int) (odd : Bool) :
    placeNear la lo y x odd =
      (let z := 60 - odd.toNat
      let n := nearest z la y
      if 4 * n.natAbs > z * 2 ^ 17 then none
      else
        let k := max 1 (zones z n - odd.toNat)
        some (tenth z n, tenth k (turned k (nearest k lo x)))) := by
  unfold placeNear turned
  dsimp only
  rw [half_eq]
end Ph

namespace Ph
open Ql35
/-! ### A half comes -/
def otherOf (c : Craft) (odd : Bool) : Option Half := if odd = true then c.even else c.odd
def placeBoth (c : Craft) (t : Nat) (odd : Bool) (y x : Nat) : Option (Int × Int) := match otherOf c odd with
  | none => none
  | some o => if t ≤ o.at_ + PAIR then (if odd = true then place o.y o.x y x true else place y x o.y o.x false) else none
def placeKnown (c : Craft) (t : Nat) (odd : Bool) (y x : Nat) : Option (Int × Int) := match c.place with
  | none => none
  | some (u, la, lo) => if t ≤ u + NEAR then placeNear la lo y x odd else none
def withHalf (c : Craft) (odd : Bool) (h : Half) : Craft := if odd = true then { c with odd := some h } else { c with even := some h }
def withPlace (c : Craft) (t : Nat) : Option (Int × Int) → Craft
  | some (la, lo) => { c with place := some (t, la, lo) }
  | none => c
def firstOf {α : Type} : Option α → Option α → Option α
  | some a, _ => some a
  | none, b => b
theorem located_py (c : Craft) (t : Nat) (odd : Bool) (y x : Nat) : located c t odd y x = withPlace (withHalf c odd ⟨t, y, x⟩) t (firstOf (placeBoth c t odd y x) (placeKnown c t odd y x)) := by
  have hp : (0 : Nat) ≤ PAIR := Nat.zero_le _
  cases odd with
  | true =>
    unfold located placeBoth placeKnown withHalf otherOf
    simp only [if_true]
    cases c.even with
    | none =>
      simp only [firstOf]
      cases c.place with
      | none => rfl
      | some p =>
        obtain ⟨u, la, lo⟩ := p
        simp only
        by_cases h2 : t ≤ u + NEAR
        · simp only [if_pos h2]
          cases placeNear la lo y x true <;> rfl
        · simp only [if_neg h2]
          rfl
    | some e =>
      simp only
      by_cases h : t ≤ e.at_ + PAIR
      · simp only [if_pos h, if_pos (show t ≤ e.at_ + PAIR ∧ t ≤ t + PAIR from ⟨h, by omega⟩)]
        cases place e.y e.x y x true with
        | some p => rfl
        | none =>
          simp only [firstOf]
          cases c.place with
          | none => rfl
          | some p =>
            obtain ⟨u, la, lo⟩ := p
            simp only
            by_cases h2 : t ≤ u + NEAR
            · simp only [if_pos h2]
              cases placeNear la lo y x true <;> rfl
            · simp only [if_neg h2]
              rfl
      · simp only [if_neg h, if_neg (show ¬ (t ≤ e.at_ + PAIR ∧ t ≤ t + PAIR) from fun q => h q.1), firstOf]
        cases c.place with
        | none => rfl
        | some p =>
          obtain ⟨u, la, lo⟩ := p
          simp only
          by_cases h2 : t ≤ u + NEAR
          · simp only [if_pos h2]
            cases placeNear la lo y x true <;> rfl
          · simp only [if_neg h2]
            rfl
  | false =>
    unfold located placeBoth placeKnown withHalf otherOf
    simp only [Bool.false_eq_true, if_false]
    cases c.odd with
    | none =>
      simp only [firstOf]
      cases c.place with
      | none => rfl
      | some p =>
        obtain ⟨u, la, lo⟩ := p
        simp only
        by_cases h2 : t ≤ u + NEAR
        · simp only [if_pos h2]
          cases placeNear la lo y x false <;> rfl
        · simp only [if_neg h2]
          rfl
    | some e =>
      simp only
      by_cases h : t ≤ e.at_ + PAIR
      · simp only [if_pos h, if_pos (show t ≤ t + PAIR ∧ t ≤ e.at_ + PAIR from ⟨by omega, h⟩)]
        cases place y x e.y e.x false with
        | some p => rfl
        | none =>
          simp only [firstOf]
          cases c.place with
          | none => rfl
          | some p =>
            obtain ⟨u, la, lo⟩ := p
            simp only
            by_cases h2 : t ≤ u + NEAR
            · simp only [if_pos h2]
              cases placeNear la lo y x false <;> rfl
            · simp only [if_neg h2]
              rfl
      · simp only [if_neg h, if_neg (show ¬ (t ≤ t + PAIR ∧ t ≤ e.at_ + PAIR) from fun q => h q.2), firstOf]
        cases c.place with
        | none => rfl
        | some p =>
          obtain ⟨u, la, lo⟩ := p
          simp only
          by_cases h2 : t ≤ u + NEAR
          · simp only [if_pos h2]
            cases placeNear la lo y x false <;> rfl
          · simp only [if_neg h2]
            rfl
/-! ### An extended message -/
def kindOf (m : Nat) : Nat := bits 56 m 1 5
def nameOf (m : Nat) : Option B := if 1 ≤ kindOf m ∧ kindOf m ≤ 4 then (List.range 8).mapM fun i => letter (bits 56 m (9 + 6 * i) 6) else none
def heightOf (m : Nat) : Option Int := if 9 ≤ kindOf m ∧ kindOf m ≤ 18 then height12 (bits 56 m 9 12) else none
def hasHalf (m : Nat) : Bool := decide ((9 ≤ kindOf m ∧ kindOf m ≤ 18) ∨ (20 ≤ kindOf m ∧ kindOf m ≤ 22))
/-- how much a step of a speed is: 0 if none is said -/
def stepOf (m : Nat) : Nat := if kindOf m = 19 then (if bits 56 m 6 3 = 1 then 1 else if bits 56 m 6 3 = 2 then 4 else 0) else 0
def sgn (s : Nat) (v : Int) : Int := if s = 1 then -v else v
def speedOf (m : Nat) : Option (Int × Int) := if stepOf m = 0 ∨ bits 56 m 15 10 = 0 ∨ bits 56 m 26 10 = 0 then none
  else some (sgn (bits 56 m 14 1) (((bits 56 m 15 10 : Int) - 1) * stepOf m), sgn (bits 56 m 25 1) (((bits 56 m 26 10 : Int) - 1) * stepOf m))
def climbOf (m : Nat) : Option Int := if stepOf m = 0 ∨ bits 56 m 38 9 = 0 then none else some (sgn (bits 56 m 37 1) (((bits 56 m 38 9 : Int) - 1) * 64))
def setName (c : Craft) : Option B → Craft
  | some l => { c with name := some l }
  | none => c
def setHeight (c : Craft) : Option Int → Craft
  | some l => { c with height := some l }
  | none => c
def setSpeed (c : Craft) : Option (Int × Int) → Craft
  | some l => { c with speed := some l }
  | none => c
def setClimb (c : Craft) : Option Int → Craft
  | some l => { c with climb := some l }
  | none => c
def setHalf (c : Craft) (t m : Nat) : Craft := if hasHalf m = true then located c t (decide (bits 56 m 22 1 = 1)) (bits 56 m 23 17) (bits 56 m 40 17) else c
theorem extended_py (c : Craft) (t m : Nat) : extended c t m = setClimb (setSpeed (setHalf (setHeight (setName c (nameOf m)) (heightOf m)) t m) (speedOf m)) (climbOf m) := by
  unfold extended
  simp only
  have ek : bits 56 m 1 5 = kindOf m := rfl
  rw [ek]
  by_cases h1 : 1 ≤ kindOf m ∧ kindOf m ≤ 4
  · have n1 : heightOf m = none := by unfold heightOf; rw [if_neg (by omega)]
    have n2 : hasHalf m = false := by unfold hasHalf; simp; omega
    have n3 : stepOf m = 0 := by unfold stepOf; rw [if_neg (by omega)]
    have n4 : speedOf m = none := by unfold speedOf; rw [if_pos (.inl n3)]
    have n5 : climbOf m = none := by unfold climbOf; rw [if_pos (.inl n3)]
    have n6 : nameOf m = (List.range 8).mapM fun i => letter (bits 56 m (9 + 6 * i) 6) := by unfold nameOf; rw [if_pos h1]
    rw [if_pos h1, n1, n4, n5, n6]
    unfold setHalf
    rw [n2]
    simp only [Bool.false_eq_true, if_false, setClimb, setSpeed, setHeight]
    cases ((List.range 8).mapM fun i => letter (bits 56 m (9 + 6 * i) 6)) <;> rfl
  · have n6 : nameOf m = none := by unfold nameOf; rw [if_neg h1]
    rw [if_neg h1, n6]
    by_cases h2 : (9 ≤ kindOf m ∧ kindOf m ≤ 18) ∨ (20 ≤ kindOf m ∧ kindOf m ≤ 22)
    · have n2 : hasHalf m = true := by unfold hasHalf; exact decide_eq_true h2
      have n3 : stepOf m = 0 := by unfold stepOf; rw [if_neg (by omega)]
      have n4 : speedOf m = none := by unfold speedOf; rw [if_pos (.inl n3)]
      have n5 : climbOf m = none := by unfold climbOf; rw [if_pos (.inl n3)]
      have n7 : heightOf m = if kindOf m ≤ 18 then height12 (bits 56 m 9 12) else none := by
        unfold heightOf
        by_cases q : kindOf m ≤ 18
        · rw [if_pos q, if_pos (by omega)]
        · rw [if_neg q, if_neg (by omega)]
      rw [if_pos h2, n4, n5, n7]
      unfold setHalf
      rw [n2]
      simp only [if_true, setClimb, setSpeed, setName]
      cases (if kindOf m ≤ 18 then height12 (bits 56 m 9 12) else none) <;> rfl
    · have n2 : hasHalf m = false := by unfold hasHalf; exact decide_eq_false h2
      have n1 : heightOf m = none := by unfold heightOf; rw [if_neg (by omega)]
      rw [if_neg h2, n1]
      unfold setHalf
      rw [n2]
      simp only [Bool.false_eq_true, if_false, setName, setHeight]
      by_cases h3 : kindOf m = 19 ∧ (bits 56 m 6 3 = 1 ∨ bits 56 m 6 3 = 2)
      · rw [if_pos h3]
        have hs : stepOf m = if bits 56 m 6 3 = 2 then 4 else 1 := by
          unfold stepOf
          rw [if_pos h3.1]
          rcases h3.2 with e | e <;> rw [e] <;> rfl
        have hs0 : stepOf m ≠ 0 := by rw [hs]; split <;> decide
        have hI : (if bits 56 m 6 3 = 2 then (4 : Int) else 1) = (stepOf m : Int) := by rw [hs]; split <;> rfl
        have hone : ∀ (s : Nat) (v : Nat), (if bits 56 m 6 3 = 2 then (4 : Int) else 1) * (if s = 1 then -((v : Int) - 1) else (v : Int) - 1) = sgn s (((v : Int) - 1) * stepOf m) := by
          intro s v
          rw [hI]
          unfold sgn
          split
          · rw [Int.mul_comm, Int.neg_mul]
          · rw [Int.mul_comm]
        have hcl : ∀ (s : Nat) (v : Nat), (64 : Int) * (if s = 1 then -((v : Int) - 1) else (v : Int) - 1) = sgn s (((v : Int) - 1) * 64) := by
          intro s v
          unfold sgn
          split
          · rw [Int.mul_comm, Int.neg_mul]
          · rw [Int.mul_comm]
        rw [hone, hone, hcl]
        have e4 : speedOf m = if bits 56 m 15 10 = 0 ∨ bits 56 m 26 10 = 0 then none else some (sgn (bits 56 m 14 1) (((bits 56 m 15 10 : Int) - 1) * stepOf m), sgn (bits 56 m 25 1) (((bits 56 m 26 10 : Int) - 1) * stepOf m)) := by
          unfold speedOf
          by_cases q : bits 56 m 15 10 = 0 ∨ bits 56 m 26 10 = 0
          · rw [if_pos q, if_pos (.inr q)]
          · rw [if_neg q, if_neg (fun z => z.elim hs0 q)]
        have e5 : climbOf m = if bits 56 m 38 9 = 0 then none else some (sgn (bits 56 m 37 1) (((bits 56 m 38 9 : Int) - 1) * 64)) := by
          unfold climbOf
          by_cases q : bits 56 m 38 9 = 0
          · rw [if_pos q, if_pos (.inr q)]
          · rw [if_neg q, if_neg (fun z => z.elim hs0 q)]
        rw [e4, e5]
        by_cases q : bits 56 m 15 10 = 0 ∨ bits 56 m 26 10 = 0 <;> by_cases q2 : bits 56 m 38 9 = 0 <;> simp [q, q2, setSpeed, setClimb]
      · rw [if_neg h3]
        have n3 : stepOf m = 0 := by
          unfold stepOf
          by_cases q : kindOf m = 19
          · rw [if_pos q, if_neg (fun z => h3 ⟨q, .inl z⟩), if_neg (fun z => h3 ⟨q, .inr z⟩)]
          · rw [if_neg q]
        have n4 : speedOf m = none := by unfold speedOf; rw [if_pos (.inl n3)]
        have n5 : climbOf m = none := by unfold climbOf; rw [if_pos (.inl n3)]
        rw [n4, n5]
        rfl
end Ph

namespace Ph
open Ql35
/-! ### A message -/
def expire (s0 : St) (t : Nat) : St := { now := t, crafts := s0.crafts.filter fun c => decide (t ≤ c.heard + LOST) }
def fmt (f : Nat) : Nat := if f = 4 ∨ f = 5 ∨ f = 11 then 7 else if f = 17 ∨ f = 18 ∨ f = 20 ∨ f = 21 then 14 else 0
def setCode (w m f : Nat) (c : Craft) : Craft := if f = 4 ∨ f = 20 then setHeight c (height13 (bits w m 20 13)) else { c with code := some (identity (bits w m 20 13)) }
def replyPy (s : St) (w m f : Nat) : St × Int := match s.find (sum w m) with
  | none => (s, -3)
  | some _ => (s.hear (sum w m) (setCode w m f), 0)
def setExt (x w f t : Nat) (c : Craft) : Craft := if f = 11 then c else extended c t (bits w x 33 56)
def squitPy (s : St) (w m f : Nat) : St × Int := match mended w m with
  | none => (s, -2)
  | some x => (if f = 18 ∧ bits w x 6 3 ≠ 0 then s else s.hear (bits w x 9 24) (setExt x w f s.now), if sum w m = 0 then 0 else 1)
def messagePy (s0 : St) (b : B) (t : Nat) : St × Int :=
  let w := 8 * b.length
  let m := num b
  let f := bits w m 1 5
  if fmt f ≠ b.length then (expire s0 t, -1)
  else if (f = 4 ∨ f = 20) ∨ (f = 5 ∨ f = 21) then replyPy (expire s0 t) w m f
  else squitPy (expire s0 t) w m f
theorem pow_ne {m p : Nat} : m ^^^ 2 ^ p ≠ m := by
  intro h
  have e : m ^^^ 2 ^ p ^^^ m = 0 := by rw [h, Nat.xor_self]
  rw [Nat.xor_comm, ← Nat.xor_assoc, Nat.xor_self, Nat.zero_xor] at e
  have := Nat.two_pow_pos p
  omega
theorem mended_same {w m x : Nat} (hw : w = 56 ∨ w = 112) (h : mended w m = some x) : (if x = m then (0 : Int) else 1) = if sum w m = 0 then 0 else 1 := by
  by_cases h0 : sum w m = 0
  · unfold mended at h
    rw [if_pos h0] at h
    cases h
    rw [if_pos rfl, if_pos h0]
  · rw [mended_eq hw h0] at h
    cases e : turnedAt w m with
    | none => rw [e] at h; cases h
    | some p =>
      rw [e] at h
      cases h
      rw [if_neg pow_ne, if_neg h0]
theorem hear_congr (s : St) (a : Nat) {f g : Craft → Craft} (h : ∀ c, f c = g c) : s.hear a f = s.hear a g := by
  have e : f = g := funext h
  rw [e]
theorem message_py (s0 : St) (b : B) (t : Nat) (hb : b.length = 7 ∨ b.length = 14) : s0.message b t = messagePy s0 b t := by
  have hw : 8 * b.length = 56 ∨ 8 * b.length = 112 := by omega
  unfold St.message messagePy
  simp only
  have es : ({ now := t, crafts := s0.crafts.filter fun c => decide (t ≤ c.heard + LOST) } : St) = expire s0 t := rfl
  rw [es]
  generalize hs : expire s0 t = s
  have hn : s.now = t := by rw [← hs]; rfl
  generalize hm : num b = m
  generalize hf : bits (8 * b.length) m 1 5 = f
  by_cases c1 : fmt f ≠ b.length
  · rw [if_pos c1]
    by_cases c2 : long f ≠ decide (b.length = 14)
    · rw [if_pos c2]
    · rw [if_neg c2]
      have c2' : long f = decide (b.length = 14) := Decidable.of_not_not c2
      unfold long at c2'
      have q : decide (16 ≤ f) = true ↔ b.length = 14 := by rw [c2']; simp
      have q' : 16 ≤ f ↔ b.length = 14 := by simpa using q
      unfold fmt at c1
      rw [if_neg (by rintro (z | z | z) <;> (subst z; simp at c1; omega)), if_neg (by rintro (z | z | z | z) <;> (subst z; simp at c1; omega))]
  · rw [if_neg c1]
    have c1' : fmt f = b.length := Decidable.of_not_not c1
    have hf2 : f = 4 ∨ f = 5 ∨ f = 11 ∨ f = 17 ∨ f = 18 ∨ f = 20 ∨ f = 21 := by
      unfold fmt at c1'
      split at c1'
      · omega
      · split at c1' <;> omega
    have hlong : ¬ long f ≠ decide (b.length = 14) := by
      intro z
      apply z
      unfold long
      unfold fmt at c1'
      rcases hf2 with e | e | e | e | e | e | e <;> subst e <;> simp at c1' <;> rw [← c1'] <;> decide
    rw [if_neg hlong]
    by_cases c3 : (f = 4 ∨ f = 20) ∨ (f = 5 ∨ f = 21)
    · rw [if_pos c3, if_neg (by omega), if_pos (by omega)]
      unfold replyPy
      cases e : s.find (sum (8 * b.length) m) with
      | none => rfl
      | some c =>
        simp only [Option.isNone_some, Bool.false_eq_true, if_false]
        congr 1
        apply hear_congr
        intro c
        unfold setCode
        rcases c3 with (z | z) | (z | z) <;> subst z <;> simp <;> cases height13 (bits (8 * b.length) m 20 13) <;> rfl
    · rw [if_neg c3, if_pos (by omega)]
      unfold squitPy
      cases e : mended (8 * b.length) m with
      | none => rfl
      | some x =>
        simp only
        rw [mended_same hw e]
        congr 1
        by_cases z : f = 11
        · subst z
          rw [if_pos rfl, if_neg (by omega)]
          apply hear_congr
          intro c
          unfold setExt
          rw [if_pos rfl]
          rfl
        · rw [if_neg z]
          by_cases z2 : f = 18 ∧ bits (8 * b.length) x 6 3 ≠ 0
          · rw [if_pos z2, if_pos z2]
          · rw [if_neg z2, if_neg z2]
            apply hear_congr
            intro c
            unfold setExt
            rw [if_neg z, hn]
end Ph

namespace Ph
/-! ### The list of calls, cut into calls -/
inductive Toks : List Int → List (List (List Int)) → Prop
  | nil : Toks [] []
  | new {r cs} : Toks r cs → Toks (0 :: r) ([[0]] :: cs)
  | msg {n t : Int} {b r : List Int} {cs} : Toks r cs → Toks (1 :: n :: t :: (b.length : Int) :: (b ++ r)) ([[1, n, t], b] :: cs)
  | count {r cs} : Toks r cs → Toks (2 :: r) ([[2]] :: cs)
  | find {a : Int} {r cs} : Toks r cs → Toks (3 :: a :: r) ([[3, a]] :: cs)
  | at_ {a : Int} {r cs} : Toks r cs → Toks (4 :: a :: r) ([[4, a]] :: cs)
  | name {a : Int} {r cs} : Toks r cs → Toks (5 :: a :: r) ([[5, a]] :: cs)
theorem call_one {p x : Int} {r t : List Int} {c : List (List Int)} (hs : PyQl35.shape p = some (1, 0)) (h : PyFlat.call PyQl35.shape (p :: r) = some (c, t)) : ∃ x, r = x :: t ∧ c = [[p, x]] := by
  unfold PyFlat.call at h
  simp only [hs] at h
  cases r with
  | nil => simp at h
  | cons x r =>
    simp [PyFlat.rows] at h
    exact ⟨x, by rw [h.2], h.1.symm⟩
theorem call_zero {p : Int} {r t : List Int} {c : List (List Int)} (hs : PyQl35.shape p = some (0, 0)) (h : PyFlat.call PyQl35.shape (p :: r) = some (c, t)) : r = t ∧ c = [[p]] := by
  unfold PyFlat.call at h
  simp only [hs] at h
  simp [PyFlat.rows] at h
  exact ⟨h.2, h.1.symm⟩
theorem call_msg {r t : List Int} {c : List (List Int)} (h : PyFlat.call PyQl35.shape (1 :: r) = some (c, t)) : ∃ (n x : Int) (b : List Int), r = n :: x :: (b.length : Int) :: (b ++ t) ∧ c = [[1, n, x], b] := by
  unfold PyFlat.call at h
  have hs : PyQl35.shape 1 = some (2, 1) := by decide
  simp only [hs] at h
  match r, h with
  | [], h => simp at h
  | [_], h => simp at h
  | [_, _], h => simp [PyFlat.rows, PyFlat.row] at h
  | n :: x :: L :: q, h =>
    simp [PyFlat.rows, PyFlat.row] at h
    split at h
    · cases h
    · rename_i e
      split at e
      · cases e
      · rename_i e2
        split at e2
        · rename_i hL
          simp at e2 e h
          obtain ⟨rfl, rfl⟩ := h
          obtain ⟨rfl, rfl⟩ := e
          obtain ⟨rfl, rfl⟩ := e2
          refine ⟨n, x, q.take L.toNat, ?_, rfl⟩
          rw [List.take_append_drop, List.length_take, Nat.min_eq_left (by have := hL.2; omega), Int.toNat_of_nonneg hL.1]
        · cases e2
theorem toks_of : ∀ (f : Nat) (l : List Int) (cs : List (List (List Int))), PyFlat.calls PyQl35.shape f l = some cs → Toks l cs
  | f, [], cs, h => by
    unfold PyFlat.calls at h
    simp at h
    subst h
    exact .nil
  | 0, _ :: _, cs, h => by
    unfold PyFlat.calls at h
    cases h
  | f + 1, p :: r, cs, h => by
    unfold PyFlat.calls at h
    cases e : PyFlat.call PyQl35.shape (p :: r) with
    | none =>
      rw [e] at h
      cases h
    | some ct =>
      obtain ⟨c, t⟩ := ct
      rw [e] at h
      simp only at h
      cases e2 : PyFlat.calls PyQl35.shape f t with
      | none =>
        rw [e2] at h
        cases h
      | some cs' =>
        rw [e2] at h
        simp at h
        subst h
        have T := toks_of f t cs' e2
        by_cases h0 : p = 0
        · subst h0
          obtain ⟨rfl, rfl⟩ := call_zero (by decide) e
          exact .new T
        by_cases h1 : p = 1
        · subst h1
          obtain ⟨n, x, b, rfl, rfl⟩ := call_msg e
          exact .msg T
        by_cases h2 : p = 2
        · subst h2
          obtain ⟨rfl, rfl⟩ := call_zero (by decide) e
          exact .count T
        by_cases h3 : p = 3
        · subst h3
          obtain ⟨x, rfl, rfl⟩ := call_one (x := 0) (by decide) e
          exact .find T
        by_cases h4 : p = 4
        · subst h4
          obtain ⟨x, rfl, rfl⟩ := call_one (x := 0) (by decide) e
          exact .at_ T
        by_cases h5 : p = 5
        · subst h5
          obtain ⟨x, rfl, rfl⟩ := call_one (x := 0) (by decide) e
          exact .name T
        · exfalso
          have hs : PyQl35.shape p = none := by
            unfold PyQl35.shape
            rw [if_neg h0, if_neg h1, if_neg h2, if_neg h3, if_neg h4, if_neg h5]
          unfold PyFlat.call at e
          simp only [hs] at e
          cases e
theorem toks_whole {l cs} (T : Toks l cs) : cs.map PyQl35.whole = cs := by
  induction T with
  | nil => rfl
  | new _ ih => rw [List.map_cons, ih]; rfl
  | msg _ ih => rw [List.map_cons, ih]; rfl
  | count _ ih => rw [List.map_cons, ih]; rfl
  | find _ ih => rw [List.map_cons, ih]; rfl
  | at_ _ ih => rw [List.map_cons, ih]; rfl
  | name _ ih => rw [List.map_cons, ih]; rfl
/-- what's asked, and what's due, by the cut -/
theorem asked_toks {l : List Int} (h : PyQl35.answers_asked l = true) : ∃ cs, Toks l cs ∧ cs.length ≤ 600 ∧ (∀ c ∈ cs, Ql35Neutral.may c = true) ∧ PyQl35.answers l = PyFlat.told (PyFlat.played Ql35Neutral.step Ql35Neutral.start cs) := by
  unfold PyQl35.answers_asked at h
  unfold PyQl35.answers
  unfold PyQl35.calls at h ⊢
  cases e : PyFlat.calls PyQl35.shape l.length l with
  | none =>
    rw [e] at h
    cases h
  | some cs =>
    rw [e] at h
    have T := toks_of _ _ _ e
    simp only [toks_whole T, PyFlat.atMost, Ql35Neutral.asked, Bool.and_eq_true, decide_eq_true_eq, List.all_eq_true] at h ⊢
    exact ⟨cs, T, h.1, h.2.1, rfl⟩
end Ph

namespace Ph
open Ql35
/-! ### The calls, one by one -/
def takePy (s : St) (b : B) (n t : Nat) : St × Int := if n ≠ 7 ∧ n ≠ 14 then (s, -1) else if t < s.now ∨ 2 ^ 31 ≤ t then (s, -4) else messagePy s b t
def findPy (s : St) (a : Nat) : Int := match s.crafts.findIdx? fun c => c.addr == a with
  | some i => i
  | none => -1
def atPy (s : St) (i : Nat) : List Int := match s.crafts[i]? with
  | some c => 0 :: told s.now c
  | none => [-1]
def namePy (s : St) (i : Nat) : List Int := match s.crafts[i]? with
  | some c => (match c.name with
    | some l => 0 :: l.map fun (x : Nat) => (x : Int)
    | none => [-2])
  | none => [-1]
theorem step_new (s : St) : Ql35Neutral.step s [[0]] = (empty, [0]) := rfl
theorem step_msg (s : St) (n t : Int) (b : List Int) (hb : n.toNat = 7 ∨ n.toNat = 14 → (Ql35Neutral.nats b).length = n.toNat) : Ql35Neutral.step s [[1, n, t], b] = ((takePy s (Ql35Neutral.nats b) n.toNat t.toNat).1, [(takePy s (Ql35Neutral.nats b) n.toNat t.toNat).2]) := by
  show ((spec s (.message (Ql35Neutral.nats b) n.toNat t.toNat)).1, (spec s (.message (Ql35Neutral.nats b) n.toNat t.toNat)).2.value :: (spec s (.message (Ql35Neutral.nats b) n.toNat t.toNat)).2.out) = _
  unfold spec takePy
  simp only
  by_cases c1 : n.toNat ≠ 7 ∧ n.toNat ≠ 14
  · simp only [if_pos c1]; rfl
  · simp only [if_neg c1]
    by_cases c2 : t.toNat < s.now ∨ 2 ^ 31 ≤ t.toNat
    · simp only [if_pos c2]; rfl
    · simp only [if_neg c2]
      rw [message_py s _ _ (by rw [hb (by omega)]; omega)]
      rfl
theorem step_count (s : St) : Ql35Neutral.step s [[2]] = (s, [(s.crafts.length : Int)]) := rfl
theorem step_find (s : St) (a : Int) : Ql35Neutral.step s [[3, a]] = (s, [findPy s a.toNat]) := by
  show ((spec s (.find a.toNat)).1, (spec s (.find a.toNat)).2.value :: (spec s (.find a.toNat)).2.out) = _
  unfold spec findPy
  simp only
  cases s.crafts.findIdx? fun c => c.addr == a.toNat <;> rfl
theorem step_at (s : St) (i : Int) : Ql35Neutral.step s [[4, i]] = (s, atPy s i.toNat) := by
  show ((spec s (.at_ i.toNat)).1, (spec s (.at_ i.toNat)).2.value :: (spec s (.at_ i.toNat)).2.out) = _
  unfold spec atPy
  simp only
  cases s.crafts[i.toNat]? <;> rfl
theorem step_name (s : St) (i : Int) : Ql35Neutral.step s [[5, i]] = (s, namePy s i.toNat) := by
  show ((spec s (.name i.toNat)).1, (spec s (.name i.toNat)).2.value :: (spec s (.name i.toNat)).2.out) = _
  unfold spec namePy
  simp only
  cases s.crafts[i.toNat]? with
  | none => rfl
  | some c =>
    simp only
    cases c.name <;> rfl
/-! ### Nobody was heard of later than now -/
def Good (s : St) : Prop := ∀ c ∈ s.crafts, c.heard ≤ s.now
theorem good_empty : Good empty := fun c h => by simp [empty] at h
theorem good_expire {s : St} {t : Nat} (h : Good s) (ht : s.now ≤ t) : Good (expire s t) := fun c hc => Nat.le_trans (h c (List.mem_filter.mp hc).1) ht
theorem good_hear {s : St} {a : Nat} {f : Craft → Craft} (h : Good s) (hf : ∀ c, (f c).heard = c.heard) : Good (s.hear a f) := fun c hc => by
  unfold St.hear at hc ⊢
  have hc := List.mem_of_mem_take hc
  rcases List.mem_cons.mp hc with e | e
  · subst e
    rw [hf]
    exact Nat.le_refl _
  · exact h c (List.mem_filter.mp e).1
theorem setHeight_heard (c : Craft) (h : Option Int) : (setHeight c h).heard = c.heard := by cases h <;> rfl
theorem setHeight_addr (c : Craft) (h : Option Int) : (setHeight c h).addr = c.addr := by cases h <;> rfl
theorem setCode_heard (w m f : Nat) (c : Craft) : (setCode w m f c).heard = c.heard := by
  unfold setCode
  split
  · exact setHeight_heard c _
  · rfl
theorem located_heard (c : Craft) (t : Nat) (odd : Bool) (y x : Nat) : (located c t odd y x).heard = c.heard := by
  rw [located_py]
  cases firstOf (placeBoth c t odd y x) (placeKnown c t odd y x) with
  | none => unfold withPlace withHalf; cases odd <;> rfl
  | some p => obtain ⟨la, lo⟩ := p; unfold withPlace withHalf; cases odd <;> rfl
theorem extended_heard (c : Craft) (t m : Nat) : (extended c t m).heard = c.heard := by
  rw [extended_py]
  have e1 : ∀ (c : Craft) o, (setClimb c o).heard = c.heard := fun c o => by cases o <;> rfl
  have e2 : ∀ (c : Craft) o, (setSpeed c o).heard = c.heard := fun c o => by cases o <;> rfl
  have e3 : ∀ (c : Craft) o, (setName c o).heard = c.heard := fun c o => by cases o <;> rfl
  have e4 : ∀ (c : Craft), (setHalf c t m).heard = c.heard := fun c => by
    unfold setHalf
    split
    · exact located_heard ..
    · rfl
  rw [e1, e2, e4, setHeight_heard, e3]
theorem setExt_heard (x w f t : Nat) (c : Craft) : (setExt x w f t c).heard = c.heard := by
  unfold setExt
  split
  · rfl
  · exact extended_heard ..
theorem now_hear (s : St) (a : Nat) (f : Craft → Craft) : (s.hear a f).now = s.now := rfl
theorem good_message {s : St} {b : B} {t : Nat} (h : Good s) (ht : s.now ≤ t) : Good (messagePy s b t).1 := by
  have he := good_expire h ht
  unfold messagePy
  simp only
  split
  · exact he
  · split
    · unfold replyPy
      split
      · exact he
      · exact good_hear he fun c => setCode_heard ..
    · unfold squitPy
      split
      · exact he
      · simp only
        split
        · exact he
        · exact good_hear he fun c => setExt_heard ..
theorem good_take {s : St} {b : B} {n t : Nat} (h : Good s) : Good (takePy s b n t).1 := by
  unfold takePy
  split
  · exact h
  · split
    · exact h
    · exact good_message h (by omega)
/-- the bytes of a call -/
theorem may_msg {n t : Int} {b : List Int} (h : Ql35Neutral.may [[1, n, t], b] = true) : (0 ≤ n ∧ n ≤ 4294967295) ∧ (0 ≤ t ∧ t ≤ 4294967295) ∧ (∀ x ∈ b, 0 ≤ x ∧ x ≤ 255) ∧ (b.length : Int) = if n = 7 ∨ n = 14 then n else 0 := by
  unfold Ql35Neutral.may Ql35Neutral.u32 NeutralIO.within NeutralIO.bytes at h
  simp only [Bool.and_eq_true, decide_eq_true_eq, List.all_eq_true, beq_iff_eq] at h
  exact ⟨h.1, h.2.1, h.2.2.1, h.2.2.2⟩
/-! ### One call of the list -/
def flat : List (List Int) → List Int
  | [[1, n, t], b] => 1 :: n :: t :: (b.length : Int) :: b
  | [x] => x
  | _ => []
inductive Form : List (List Int) → Prop
  | new : Form [[0]]
  | msg (n t : Int) (b : List Int) : Form [[1, n, t], b]
  | count : Form [[2]]
  | find (a : Int) : Form [[3, a]]
  | at_ (a : Int) : Form [[4, a]]
  | name (a : Int) : Form [[5, a]]
theorem toks_cons {l : List Int} {c : List (List Int)} {cs : List (List (List Int))} (h : Toks l (c :: cs)) : ∃ r, l = flat c ++ r ∧ Toks r cs ∧ Form c := by
  cases h with
  | new h => exact ⟨_, rfl, h, .new⟩
  | msg h => exact ⟨_, rfl, h, .msg ..⟩
  | count h => exact ⟨_, rfl, h, .count⟩
  | find h => exact ⟨_, rfl, h, .find _⟩
  | at_ h => exact ⟨_, rfl, h, .at_ _⟩
  | name h => exact ⟨_, rfl, h, .name _⟩
theorem toks_nil {l : List Int} (h : Toks l []) : l = [] := by cases h; rfl
theorem flat_pos {c : List (List Int)} (h : Form c) : 0 < (flat c).length := by cases h <;> simp [flat]
/-- what is told behind so many calls -/
theorem told_snoc (c : List (List Int)) (l : List (List Int)) (a : List Int) : PyFlat.told (l ++ [a]) = PyFlat.told l ++ ((a.length : Int) :: a) := by
  unfold PyFlat.told
  rw [List.flatMap_append]
  simp
theorem told_cons (l : List (List Int)) (a : List Int) : PyFlat.told (a :: l) = ((a.length : Int) :: a) ++ PyFlat.told l := by
  unfold PyFlat.told
  rw [List.flatMap_cons]
theorem told_len (now : Nat) (c : Craft) : (told now c).length = 9 := rfl
/-! ### Who is heard of -/
theorem find_map {α : Type} (zs : List (α × Craft)) (p : Craft → Bool) : (zs.map (·.2)).find? p = (zs.find? fun z => p z.2).map (·.2) := by
  rw [List.find?_map]
  rfl
theorem hear_crafts (s : St) (a : Nat) (f : Craft → Craft) : (s.hear a f).crafts = f { (s.find a).getD (fresh a s.now) with heard := s.now } :: (s.crafts.filter fun c => c.addr != a).take 255 := rfl
theorem fresh_heard (a t : Nat) : { fresh a t with heard := t } = { fresh a 0 with heard := t } := rfl
end Ph

namespace Ph
open Ql35
/-! ### Names are of signs from 32 on -/
def NameOk (c : Craft) : Prop := ∀ l, c.name = some l → ∀ x ∈ l, 32 ≤ x
def NamesOk (s : St) : Prop := ∀ c ∈ s.crafts, NameOk c
theorem letter_ok {n x : Nat} (h : letter n = some x) : 32 ≤ x := by
  unfold letter at h
  split at h
  · cases h; omega
  · split at h
    · cases h; omega
    · split at h
      · cases h; omega
      · cases h
theorem mapM_ok (f : Nat → Option Nat) (hf : ∀ k x, f k = some x → 32 ≤ x) : ∀ (ks l : List Nat), ks.mapM f = some l → ∀ x ∈ l, 32 ≤ x
  | [], l, h => by
    simp at h
    subst h
    intro x hx
    simp at hx
  | k :: ks, l, h => by
    rw [List.mapM_cons] at h
    cases e : f k with
    | none => rw [e] at h; cases h
    | some y =>
      rw [e] at h
      cases e2 : ks.mapM f with
      | none => rw [e2] at h; cases h
      | some l' =>
        rw [e2] at h
        have h' : some (y :: l') = some l := h
        cases h'
        intro x hx
        rcases List.mem_cons.mp hx with z | z
        · rw [z]; exact hf k y e
        · exact mapM_ok f hf ks l' e2 x z
theorem nameOf_ok {m : Nat} {l : B} (h : nameOf m = some l) : ∀ x ∈ l, 32 ≤ x := by
  unfold nameOf at h
  split at h
  · exact mapM_ok _ (fun k x hx => letter_ok hx) _ _ h
  · cases h
theorem extended_name (c : Craft) (t m : Nat) (h : NameOk c) : NameOk (extended c t m) := by
  rw [extended_py]
  have e1 : ∀ (c : Craft) o, (setClimb c o).name = c.name := fun c o => by cases o <;> rfl
  have e2 : ∀ (c : Craft) o, (setSpeed c o).name = c.name := fun c o => by cases o <;> rfl
  have e3 : ∀ (c : Craft) o, (setHeight c o).name = c.name := fun c o => by cases o <;> rfl
  have e4 : ∀ (c : Craft), (setHalf c t m).name = c.name := fun c => by
    unfold setHalf
    split
    · rw [located_py]
      cases firstOf (placeBoth c t (decide (bits 56 m 22 1 = 1)) (bits 56 m 23 17) (bits 56 m 40 17)) (placeKnown c t (decide (bits 56 m 22 1 = 1)) (bits 56 m 23 17) (bits 56 m 40 17)) with
      | none => unfold withPlace withHalf; cases decide (bits 56 m 22 1 = 1) <;> rfl
      | some p => obtain ⟨la, lo⟩ := p; unfold withPlace withHalf; cases decide (bits 56 m 22 1 = 1) <;> rfl
    · rfl
  intro l hl
  rw [e1, e2, e4, e3] at hl
  cases hn : nameOf m with
  | none => rw [hn] at hl; exact h l hl
  | some l' =>
    rw [hn] at hl
    have h' : some l' = some l := hl
    cases h'
    exact nameOf_ok hn
theorem setExt_name (x w f t : Nat) (c : Craft) (h : NameOk c) : NameOk (setExt x w f t c) := by
  unfold setExt
  split
  · exact h
  · exact extended_name c t _ h
theorem setCode_name (w m f : Nat) (c : Craft) (h : NameOk c) : NameOk (setCode w m f c) := by
  unfold setCode
  split
  · intro l hl
    have e : (setHeight c (height13 (bits w m 20 13))).name = c.name := by cases height13 (bits w m 20 13) <;> rfl
    rw [e] at hl
    exact h l hl
  · exact h
theorem names_empty : NamesOk empty := fun c h => by simp [empty] at h
theorem names_expire {s : St} {t : Nat} (h : NamesOk s) : NamesOk (expire s t) := fun c hc => h c (List.mem_filter.mp hc).1
theorem names_hear {s : St} {a : Nat} {f : Craft → Craft} (h : NamesOk s) (hf : ∀ c, NameOk c → NameOk (f c)) : NamesOk (s.hear a f) := fun c hc => by
  unfold St.hear at hc
  have hc := List.mem_of_mem_take hc
  rcases List.mem_cons.mp hc with e | e
  · subst e
    apply hf
    cases e2 : s.find a with
    | none =>
      intro l hl
      cases hl
    | some d =>
      have hd : d ∈ s.crafts := List.mem_of_find?_eq_some e2
      exact fun l hl => h d hd l hl
  · exact h c (List.mem_filter.mp e).1
theorem names_message {s : St} {b : B} {t : Nat} (h : NamesOk s) : NamesOk (messagePy s b t).1 := by
  have he : NamesOk (expire s t) := names_expire h
  unfold messagePy
  simp only
  split
  · exact he
  · split
    · unfold replyPy
      split
      · exact he
      · exact names_hear he fun c hc => setCode_name _ _ _ c hc
    · unfold squitPy
      split
      · exact he
      · simp only
        split
        · exact he
        · exact names_hear he fun c hc => setExt_name _ _ _ _ c hc
theorem names_take {s : St} {b : B} {n t : Nat} (h : NamesOk s) : NamesOk (takePy s b n t).1 := by
  unfold takePy
  split
  · exact h
  · split
    · exact h
    · exact names_message h
theorem names_step {s : St} {c : List (List Int)} (hf : Form c) (hm : Ql35Neutral.may c = true) (h : NamesOk s) : NamesOk (Ql35Neutral.step s c).1 := by
  cases hf with
  | new => exact names_empty
  | msg n t b =>
    obtain ⟨hn, ht, hbb, hlen⟩ := may_msg hm
    rw [step_msg s n t b (fun h => by
      have e : n = 7 ∨ n = 14 := by omega
      rw [if_pos e] at hlen
      unfold Ql35Neutral.nats
      rw [List.length_map]
      omega)]
    exact names_take h
  | count => exact h
  | find a => rw [step_find]; exact h
  | at_ a => rw [step_at]; exact h
  | name a => rw [step_name]; exact h
end Ph

namespace Ph
open PySem L2
def top (i : Nat) : Stmt := PySem.Challenge.pw_planesheard_s01_answers.main.body.getD i (.Pass ⟨0, 0, 0, 0⟩)
abbrev s_number_of_bytes : Stmt := top 5
abbrev s_bits_between : Stmt := top 6
abbrev s_rest_of : Stmt := top 7
abbrev s_with_one_bit_turned : Stmt := top 8
abbrev s_picked : Stmt := top 20
abbrev s_turned_back : Stmt := top 21
abbrev s_height_of : Stmt := top 22
abbrev s_height_by_hundreds : Stmt := top 23
abbrev s_identity_of : Stmt := top 24
abbrev s_Angle___init__ : Stmt := inClass (top 32) 0
abbrev s_Angle_circle : Stmt := inClass (top 32) 1
abbrev s_Angle_told : Stmt := inClass (top 32) 2
abbrev s_Angle_reaches : Stmt := inClass (top 32) 3
abbrev s_Angle_moved : Stmt := inClass (top 32) 4
abbrev s_beyond_a_pole : Stmt := top 33
abbrev s_zones_of_longitude : Stmt := top 34
abbrev s_nearest_angle : Stmt := top 35
abbrev s_Half___init__ : Stmt := inClass (top 39) 0
abbrev s_Place___init__ : Stmt := inClass (top 40) 0
abbrev s_place_out_of_halves : Stmt := top 41
abbrev s_place_near : Stmt := top 42
abbrev s_nearest_whole_zone : Stmt := top 43
abbrev s_latitude_in_zone : Stmt := top 44
abbrev s_longitude_in_zone : Stmt := top 45
abbrev s_zones_for_half : Stmt := top 46
abbrev s_within_half_a_circle : Stmt := top 47
abbrev s_bits_in : Stmt := top 57
abbrev s_kind_of : Stmt := top 58
abbrev s_name_in : Stmt := top 59
abbrev s_name_byte : Stmt := top 60
abbrev s_height_in : Stmt := top 61
abbrev s_half_in : Stmt := top 62
abbrev s_speed_step_in : Stmt := top 63
abbrev s_speeds_in : Stmt := top 64
abbrev s_climb_in : Stmt := top 65
abbrev s_signed : Stmt := top 66
abbrev s_Aircraft___init__ : Stmt := inClass (top 71) 0
abbrev s_Aircraft_numbers_at : Stmt := inClass (top 71) 1
abbrev s_Aircraft_take_height : Stmt := inClass (top 71) 2
abbrev s_Aircraft_take_extended : Stmt := inClass (top 71) 3
abbrev s_Aircraft_take_half : Stmt := inClass (top 71) 4
abbrev s_Aircraft_place_by_both : Stmt := inClass (top 71) 5
abbrev s_Aircraft_place_by_known : Stmt := inClass (top 71) 6
abbrev s_Receiver___init__ : Stmt := inClass (top 99) 0
abbrev s_Receiver_begin : Stmt := inClass (top 99) 1
abbrev s_Receiver_take_message : Stmt := inClass (top 99) 2
abbrev s_Receiver_set_time : Stmt := inClass (top 99) 3
abbrev s_Receiver_take_reply : Stmt := inClass (top 99) 4
abbrev s_Receiver_take_squitter : Stmt := inClass (top 99) 5
abbrev s_Receiver_spot_of : Stmt := inClass (top 99) 6
abbrev s_Receiver_known_or_new : Stmt := inClass (top 99) 7
abbrev s_Receiver_hear : Stmt := inClass (top 99) 8
abbrev s_Receiver_how_many : Stmt := inClass (top 99) 9
abbrev s_Receiver_tell_numbers : Stmt := inClass (top 99) 10
abbrev s_Receiver_tell_name : Stmt := inClass (top 99) 11
abbrev s_size_of_call : Stmt := top 100
abbrev s_answer_of : Stmt := top 101
abbrev s_answers : Stmt := top 102
set_option genInjectivity false in
set_option genSizeOf false in
/-- where things stand -/
structure Ad where
  Angle : Addr
  Half : Addr
  Place : Addr
  Aircraft : Addr
  Receiver : Addr
  f_number_of_bytes : Addr
  d_number_of_bytes : FuncData
  f_bits_between : Addr
  d_bits_between : FuncData
  f_rest_of : Addr
  d_rest_of : FuncData
  f_with_one_bit_turned : Addr
  d_with_one_bit_turned : FuncData
  f_picked : Addr
  d_picked : FuncData
  f_turned_back : Addr
  d_turned_back : FuncData
  f_height_of : Addr
  d_height_of : FuncData
  f_height_by_hundreds : Addr
  d_height_by_hundreds : FuncData
  f_identity_of : Addr
  d_identity_of : FuncData
  f_Angle___init__ : Addr
  d_Angle___init__ : FuncData
  f_Angle_circle : Addr
  d_Angle_circle : FuncData
  f_Angle_told : Addr
  d_Angle_told : FuncData
  f_Angle_reaches : Addr
  d_Angle_reaches : FuncData
  f_Angle_moved : Addr
  d_Angle_moved : FuncData
  f_beyond_a_pole : Addr
  d_beyond_a_pole : FuncData
  f_zones_of_longitude : Addr
  d_zones_of_longitude : FuncData
  f_nearest_angle : Addr
  d_nearest_angle : FuncData
  f_Half___init__ : Addr
  d_Half___init__ : FuncData
  f_Place___init__ : Addr
  d_Place___init__ : FuncData
  f_place_out_of_halves : Addr
  d_place_out_of_halves : FuncData
  f_place_near : Addr
  d_place_near : FuncData
  f_nearest_whole_zone : Addr
  d_nearest_whole_zone : FuncData
  f_latitude_in_zone : Addr
  d_latitude_in_zone : FuncData
  f_longitude_in_zone : Addr
  d_longitude_in_zone : FuncData
  f_zones_for_half : Addr
  d_zones_for_half : FuncData
  f_within_half_a_circle : Addr
  d_within_half_a_circle : FuncData
  f_bits_in : Addr
  d_bits_in : FuncData
  f_kind_of : Addr
  d_kind_of : FuncData
  f_name_in : Addr
  d_name_in : FuncData
  f_name_byte : Addr
  d_name_byte : FuncData
  f_height_in : Addr
  d_height_in : FuncData
  f_half_in : Addr
  d_half_in : FuncData
  f_speed_step_in : Addr
  d_speed_step_in : FuncData
  f_speeds_in : Addr
  d_speeds_in : FuncData
  f_climb_in : Addr
  d_climb_in : FuncData
  f_signed : Addr
  d_signed : FuncData
  f_Aircraft___init__ : Addr
  d_Aircraft___init__ : FuncData
  f_Aircraft_numbers_at : Addr
  d_Aircraft_numbers_at : FuncData
  f_Aircraft_take_height : Addr
  d_Aircraft_take_height : FuncData
  f_Aircraft_take_extended : Addr
  d_Aircraft_take_extended : FuncData
  f_Aircraft_take_half : Addr
  d_Aircraft_take_half : FuncData
  f_Aircraft_place_by_both : Addr
  d_Aircraft_place_by_both : FuncData
  f_Aircraft_place_by_known : Addr
  d_Aircraft_place_by_known : FuncData
  f_Receiver___init__ : Addr
  d_Receiver___init__ : FuncData
  f_Receiver_begin : Addr
  d_Receiver_begin : FuncData
  f_Receiver_take_message : Addr
  d_Receiver_take_message : FuncData
  f_Receiver_set_time : Addr
  d_Receiver_set_time : FuncData
  f_Receiver_take_reply : Addr
  d_Receiver_take_reply : FuncData
  f_Receiver_take_squitter : Addr
  d_Receiver_take_squitter : FuncData
  f_Receiver_spot_of : Addr
  d_Receiver_spot_of : FuncData
  f_Receiver_known_or_new : Addr
  d_Receiver_known_or_new : FuncData
  f_Receiver_hear : Addr
  d_Receiver_hear : FuncData
  f_Receiver_how_many : Addr
  d_Receiver_how_many : FuncData
  f_Receiver_tell_numbers : Addr
  d_Receiver_tell_numbers : FuncData
  f_Receiver_tell_name : Addr
  d_Receiver_tell_name : FuncData
  f_size_of_call : Addr
  d_size_of_call : FuncData
  f_answer_of : Addr
  d_answer_of : FuncData
  f_answers : Addr
  d_answers : FuncData
  k_M_SPOT : Addr
  k_Q_SPOT : Addr
  k_PLAIN_SPOTS : Addr
  k_FIVE_HUNDREDS_SPOTS : Addr
  k_HUNDREDS_SPOTS : Addr
  k_A_SPOTS : Addr
  k_B_SPOTS : Addr
  k_C_SPOTS : Addr
  k_D_SPOTS : Addr
  k_EDGES : Addr
  k_NAME_KINDS : Addr
  k_HEIGHT_KINDS : Addr
  k_HALF_KINDS : Addr
  k_SPEED_STEPS : Addr
  k_CALLS_WITH_ONE_NUMBER : Addr
  k_LENGTHS : Addr
  k_FORMATS : Addr
  k_HEIGHT_FORMATS : Addr
  k_IDENTITY_FORMATS : Addr
structure Txt (K : PySem.W.Frag) (mg : Str → Option Value) (A : Ad) : Prop where
  cl_Angle : Cls K A.Angle
  mk_Angle : Mk K A.Angle A.f_Angle___init__
  mg_Angle : mg "Angle" = some (.ref A.Angle)
  na_Angle_parts : NoAttr K A.Angle "parts"
  na_Angle_zones : NoAttr K A.Angle "zones"
  cl_Half : Cls K A.Half
  mk_Half : Mk K A.Half A.f_Half___init__
  mg_Half : mg "Half" = some (.ref A.Half)
  na_Half_odd : NoAttr K A.Half "odd"
  na_Half_y : NoAttr K A.Half "y"
  na_Half_x : NoAttr K A.Half "x"
  na_Half_heard : NoAttr K A.Half "heard"
  cl_Place : Cls K A.Place
  mk_Place : Mk K A.Place A.f_Place___init__
  mg_Place : mg "Place" = some (.ref A.Place)
  na_Place_latitude : NoAttr K A.Place "latitude"
  na_Place_longitude : NoAttr K A.Place "longitude"
  cl_Aircraft : Cls K A.Aircraft
  mk_Aircraft : Mk K A.Aircraft A.f_Aircraft___init__
  mg_Aircraft : mg "Aircraft" = some (.ref A.Aircraft)
  na_Aircraft_address : NoAttr K A.Aircraft "address"
  na_Aircraft_heard : NoAttr K A.Aircraft "heard"
  na_Aircraft_name : NoAttr K A.Aircraft "name"
  na_Aircraft_height : NoAttr K A.Aircraft "height"
  na_Aircraft_identity : NoAttr K A.Aircraft "identity"
  na_Aircraft_east : NoAttr K A.Aircraft "east"
  na_Aircraft_north : NoAttr K A.Aircraft "north"
  na_Aircraft_climb : NoAttr K A.Aircraft "climb"
  na_Aircraft_place : NoAttr K A.Aircraft "place"
  na_Aircraft_place_heard : NoAttr K A.Aircraft "place_heard"
  na_Aircraft_halves : NoAttr K A.Aircraft "halves"
  cl_Receiver : Cls K A.Receiver
  mk_Receiver : Mk K A.Receiver A.f_Receiver___init__
  mg_Receiver : mg "Receiver" = some (.ref A.Receiver)
  na_Receiver_now : NoAttr K A.Receiver "now"
  na_Receiver_known : NoAttr K A.Receiver "known"
  fn_number_of_bytes : Fun K "number_of_bytes" "number_of_bytes" s_number_of_bytes A.f_number_of_bytes A.d_number_of_bytes
  mg_number_of_bytes : mg "number_of_bytes" = some (.ref A.f_number_of_bytes)
  fn_bits_between : Fun K "bits_between" "bits_between" s_bits_between A.f_bits_between A.d_bits_between
  mg_bits_between : mg "bits_between" = some (.ref A.f_bits_between)
  fn_rest_of : Fun K "rest_of" "rest_of" s_rest_of A.f_rest_of A.d_rest_of
  mg_rest_of : mg "rest_of" = some (.ref A.f_rest_of)
  fn_with_one_bit_turned : Fun K "with_one_bit_turned" "with_one_bit_turned" s_with_one_bit_turned A.f_with_one_bit_turned A.d_with_one_bit_turned
  mg_with_one_bit_turned : mg "with_one_bit_turned" = some (.ref A.f_with_one_bit_turned)
  fn_picked : Fun K "picked" "picked" s_picked A.f_picked A.d_picked
  mg_picked : mg "picked" = some (.ref A.f_picked)
  fn_turned_back : Fun K "turned_back" "turned_back" s_turned_back A.f_turned_back A.d_turned_back
  mg_turned_back : mg "turned_back" = some (.ref A.f_turned_back)
  fn_height_of : Fun K "height_of" "height_of" s_height_of A.f_height_of A.d_height_of
  mg_height_of : mg "height_of" = some (.ref A.f_height_of)
  fn_height_by_hundreds : Fun K "height_by_hundreds" "height_by_hundreds" s_height_by_hundreds A.f_height_by_hundreds A.d_height_by_hundreds
  mg_height_by_hundreds : mg "height_by_hundreds" = some (.ref A.f_height_by_hundreds)
  fn_identity_of : Fun K "identity_of" "identity_of" s_identity_of A.f_identity_of A.d_identity_of
  mg_identity_of : mg "identity_of" = some (.ref A.f_identity_of)
  fn_Angle___init__ : Fun K "__init__" "Angle.__init__" s_Angle___init__ A.f_Angle___init__ A.d_Angle___init__
  fn_Angle_circle : Fun K "circle" "Angle.circle" s_Angle_circle A.f_Angle_circle A.d_Angle_circle
  me_Angle_circle : Meth K A.Angle "circle" A.f_Angle_circle
  fn_Angle_told : Fun K "told" "Angle.told" s_Angle_told A.f_Angle_told A.d_Angle_told
  me_Angle_told : Meth K A.Angle "told" A.f_Angle_told
  fn_Angle_reaches : Fun K "reaches" "Angle.reaches" s_Angle_reaches A.f_Angle_reaches A.d_Angle_reaches
  me_Angle_reaches : Meth K A.Angle "reaches" A.f_Angle_reaches
  fn_Angle_moved : Fun K "moved" "Angle.moved" s_Angle_moved A.f_Angle_moved A.d_Angle_moved
  me_Angle_moved : Meth K A.Angle "moved" A.f_Angle_moved
  fn_beyond_a_pole : Fun K "beyond_a_pole" "beyond_a_pole" s_beyond_a_pole A.f_beyond_a_pole A.d_beyond_a_pole
  mg_beyond_a_pole : mg "beyond_a_pole" = some (.ref A.f_beyond_a_pole)
  fn_zones_of_longitude : Fun K "zones_of_longitude" "zones_of_longitude" s_zones_of_longitude A.f_zones_of_longitude A.d_zones_of_longitude
  mg_zones_of_longitude : mg "zones_of_longitude" = some (.ref A.f_zones_of_longitude)
  fn_nearest_angle : Fun K "nearest_angle" "nearest_angle" s_nearest_angle A.f_nearest_angle A.d_nearest_angle
  mg_nearest_angle : mg "nearest_angle" = some (.ref A.f_nearest_angle)
  fn_Half___init__ : Fun K "__init__" "Half.__init__" s_Half___init__ A.f_Half___init__ A.d_Half___init__
  fn_Place___init__ : Fun K "__init__" "Place.__init__" s_Place___init__ A.f_Place___init__ A.d_Place___init__
  fn_place_out_of_halves : Fun K "place_out_of_halves" "place_out_of_halves" s_place_out_of_halves A.f_place_out_of_halves A.d_place_out_of_halves
  mg_place_out_of_halves : mg "place_out_of_halves" = some (.ref A.f_place_out_of_halves)
  fn_place_near : Fun K "place_near" "place_near" s_place_near A.f_place_near A.d_place_near
  mg_place_near : mg "place_near" = some (.ref A.f_place_near)
  fn_nearest_whole_zone : Fun K "nearest_whole_zone" "nearest_whole_zone" s_nearest_whole_zone A.f_nearest_whole_zone A.d_nearest_whole_zone
  mg_nearest_whole_zone : mg "nearest_whole_zone" = some (.ref A.f_nearest_whole_zone)
  fn_latitude_in_zone : Fun K "latitude_in_zone" "latitude_in_zone" s_latitude_in_zone A.f_latitude_in_zone A.d_latitude_in_zone
  mg_latitude_in_zone : mg "latitude_in_zone" = some (.ref A.f_latitude_in_zone)
  fn_longitude_in_zone : Fun K "longitude_in_zone" "longitude_in_zone" s_longitude_in_zone A.f_longitude_in_zone A.d_longitude_in_zone
  mg_longitude_in_zone : mg "longitude_in_zone" = some (.ref A.f_longitude_in_zone)
  fn_zones_for_half : Fun K "zones_for_half" "zones_for_half" s_zones_for_half A.f_zones_for_half A.d_zones_for_half
  mg_zones_for_half : mg "zones_for_half" = some (.ref A.f_zones_for_half)
  fn_within_half_a_circle : Fun K "within_half_a_circle" "within_half_a_circle" s_within_half_a_circle A.f_within_half_a_circle A.d_within_half_a_circle
  mg_within_half_a_circle : mg "within_half_a_circle" = some (.ref A.f_within_half_a_circle)
  fn_bits_in : Fun K "bits_in" "bits_in" s_bits_in A.f_bits_in A.d_bits_in
  mg_bits_in : mg "bits_in" = some (.ref A.f_bits_in)
  fn_kind_of : Fun K "kind_of" "kind_of" s_kind_of A.f_kind_of A.d_kind_of
  mg_kind_of : mg "kind_of" = some (.ref A.f_kind_of)
  fn_name_in : Fun K "name_in" "name_in" s_name_in A.f_name_in A.d_name_in
  mg_name_in : mg "name_in" = some (.ref A.f_name_in)
  fn_name_byte : Fun K "name_byte" "name_byte" s_name_byte A.f_name_byte A.d_name_byte
  mg_name_byte : mg "name_byte" = some (.ref A.f_name_byte)
  fn_height_in : Fun K "height_in" "height_in" s_height_in A.f_height_in A.d_height_in
  mg_height_in : mg "height_in" = some (.ref A.f_height_in)
  fn_half_in : Fun K "half_in" "half_in" s_half_in A.f_half_in A.d_half_in
  mg_half_in : mg "half_in" = some (.ref A.f_half_in)
  fn_speed_step_in : Fun K "speed_step_in" "speed_step_in" s_speed_step_in A.f_speed_step_in A.d_speed_step_in
  mg_speed_step_in : mg "speed_step_in" = some (.ref A.f_speed_step_in)
  fn_speeds_in : Fun K "speeds_in" "speeds_in" s_speeds_in A.f_speeds_in A.d_speeds_in
  mg_speeds_in : mg "speeds_in" = some (.ref A.f_speeds_in)
  fn_climb_in : Fun K "climb_in" "climb_in" s_climb_in A.f_climb_in A.d_climb_in
  mg_climb_in : mg "climb_in" = some (.ref A.f_climb_in)
  fn_signed : Fun K "signed" "signed" s_signed A.f_signed A.d_signed
  mg_signed : mg "signed" = some (.ref A.f_signed)
  fn_Aircraft___init__ : Fun K "__init__" "Aircraft.__init__" s_Aircraft___init__ A.f_Aircraft___init__ A.d_Aircraft___init__
  fn_Aircraft_numbers_at : Fun K "numbers_at" "Aircraft.numbers_at" s_Aircraft_numbers_at A.f_Aircraft_numbers_at A.d_Aircraft_numbers_at
  me_Aircraft_numbers_at : Meth K A.Aircraft "numbers_at" A.f_Aircraft_numbers_at
  fn_Aircraft_take_height : Fun K "take_height" "Aircraft.take_height" s_Aircraft_take_height A.f_Aircraft_take_height A.d_Aircraft_take_height
  me_Aircraft_take_height : Meth K A.Aircraft "take_height" A.f_Aircraft_take_height
  fn_Aircraft_take_extended : Fun K "take_extended" "Aircraft.take_extended" s_Aircraft_take_extended A.f_Aircraft_take_extended A.d_Aircraft_take_extended
  me_Aircraft_take_extended : Meth K A.Aircraft "take_extended" A.f_Aircraft_take_extended
  fn_Aircraft_take_half : Fun K "take_half" "Aircraft.take_half" s_Aircraft_take_half A.f_Aircraft_take_half A.d_Aircraft_take_half
  me_Aircraft_take_half : Meth K A.Aircraft "take_half" A.f_Aircraft_take_half
  fn_Aircraft_place_by_both : Fun K "place_by_both" "Aircraft.place_by_both" s_Aircraft_place_by_both A.f_Aircraft_place_by_both A.d_Aircraft_place_by_both
  me_Aircraft_place_by_both : Meth K A.Aircraft "place_by_both" A.f_Aircraft_place_by_both
  fn_Aircraft_place_by_known : Fun K "place_by_known" "Aircraft.place_by_known" s_Aircraft_place_by_known A.f_Aircraft_place_by_known A.d_Aircraft_place_by_known
  me_Aircraft_place_by_known : Meth K A.Aircraft "place_by_known" A.f_Aircraft_place_by_known
  fn_Receiver___init__ : Fun K "__init__" "Receiver.__init__" s_Receiver___init__ A.f_Receiver___init__ A.d_Receiver___init__
  fn_Receiver_begin : Fun K "begin" "Receiver.begin" s_Receiver_begin A.f_Receiver_begin A.d_Receiver_begin
  me_Receiver_begin : Meth K A.Receiver "begin" A.f_Receiver_begin
  fn_Receiver_take_message : Fun K "take_message" "Receiver.take_message" s_Receiver_take_message A.f_Receiver_take_message A.d_Receiver_take_message
  me_Receiver_take_message : Meth K A.Receiver "take_message" A.f_Receiver_take_message
  fn_Receiver_set_time : Fun K "set_time" "Receiver.set_time" s_Receiver_set_time A.f_Receiver_set_time A.d_Receiver_set_time
  me_Receiver_set_time : Meth K A.Receiver "set_time" A.f_Receiver_set_time
  fn_Receiver_take_reply : Fun K "take_reply" "Receiver.take_reply" s_Receiver_take_reply A.f_Receiver_take_reply A.d_Receiver_take_reply
  me_Receiver_take_reply : Meth K A.Receiver "take_reply" A.f_Receiver_take_reply
  fn_Receiver_take_squitter : Fun K "take_squitter" "Receiver.take_squitter" s_Receiver_take_squitter A.f_Receiver_take_squitter A.d_Receiver_take_squitter
  me_Receiver_take_squitter : Meth K A.Receiver "take_squitter" A.f_Receiver_take_squitter
  fn_Receiver_spot_of : Fun K "spot_of" "Receiver.spot_of" s_Receiver_spot_of A.f_Receiver_spot_of A.d_Receiver_spot_of
  me_Receiver_spot_of : Meth K A.Receiver "spot_of" A.f_Receiver_spot_of
  fn_Receiver_known_or_new : Fun K "known_or_new" "Receiver.known_or_new" s_Receiver_known_or_new A.f_Receiver_known_or_new A.d_Receiver_known_or_new
  me_Receiver_known_or_new : Meth K A.Receiver "known_or_new" A.f_Receiver_known_or_new
  fn_Receiver_hear : Fun K "hear" "Receiver.hear" s_Receiver_hear A.f_Receiver_hear A.d_Receiver_hear
  me_Receiver_hear : Meth K A.Receiver "hear" A.f_Receiver_hear
  fn_Receiver_how_many : Fun K "how_many" "Receiver.how_many" s_Receiver_how_many A.f_Receiver_how_many A.d_Receiver_how_many
  me_Receiver_how_many : Meth K A.Receiver "how_many" A.f_Receiver_how_many
  fn_Receiver_tell_numbers : Fun K "tell_numbers" "Receiver.tell_numbers" s_Receiver_tell_numbers A.f_Receiver_tell_numbers A.d_Receiver_tell_numbers
  me_Receiver_tell_numbers : Meth K A.Receiver "tell_numbers" A.f_Receiver_tell_numbers
  fn_Receiver_tell_name : Fun K "tell_name" "Receiver.tell_name" s_Receiver_tell_name A.f_Receiver_tell_name A.d_Receiver_tell_name
  me_Receiver_tell_name : Meth K A.Receiver "tell_name" A.f_Receiver_tell_name
  fn_size_of_call : Fun K "size_of_call" "size_of_call" s_size_of_call A.f_size_of_call A.d_size_of_call
  mg_size_of_call : mg "size_of_call" = some (.ref A.f_size_of_call)
  fn_answer_of : Fun K "answer_of" "answer_of" s_answer_of A.f_answer_of A.d_answer_of
  mg_answer_of : mg "answer_of" = some (.ref A.f_answer_of)
  fn_answers : Fun K "answers" "answers" s_answers A.f_answers A.d_answers
  mg_answers : mg "answers" = some (.ref A.f_answers)
  gi_DIVISOR : ∃ t, mg "DIVISOR" = some (.int (33551369) t)
  gi_DIVISOR_TOP : ∃ t, mg "DIVISOR_TOP" = some (.int (16777216) t)
  gi_DIVISOR_POWER : ∃ t, mg "DIVISOR_POWER" = some (.int (24) t)
  gi_FORMAT_BITS : ∃ t, mg "FORMAT_BITS" = some (.int (5) t)
  gi_CODE_LENGTH : ∃ t, mg "CODE_LENGTH" = some (.int (13) t)
  gr_M_SPOT : mg "M_SPOT" = some (.ref A.k_M_SPOT)
  sq_M_SPOT : TupK K A.k_M_SPOT [7]
  gr_Q_SPOT : mg "Q_SPOT" = some (.ref A.k_Q_SPOT)
  sq_Q_SPOT : TupK K A.k_Q_SPOT [9]
  gr_PLAIN_SPOTS : mg "PLAIN_SPOTS" = some (.ref A.k_PLAIN_SPOTS)
  sq_PLAIN_SPOTS : TupK K A.k_PLAIN_SPOTS [1, 2, 3, 4, 5, 6, 8, 10, 11, 12, 13]
  gr_FIVE_HUNDREDS_SPOTS : mg "FIVE_HUNDREDS_SPOTS" = some (.ref A.k_FIVE_HUNDREDS_SPOTS)
  sq_FIVE_HUNDREDS_SPOTS : TupK K A.k_FIVE_HUNDREDS_SPOTS [11, 13, 2, 4, 6, 8, 10, 12]
  gr_HUNDREDS_SPOTS : mg "HUNDREDS_SPOTS" = some (.ref A.k_HUNDREDS_SPOTS)
  sq_HUNDREDS_SPOTS : TupK K A.k_HUNDREDS_SPOTS [1, 3, 5]
  gr_A_SPOTS : mg "A_SPOTS" = some (.ref A.k_A_SPOTS)
  sq_A_SPOTS : TupK K A.k_A_SPOTS [6, 4, 2]
  gr_B_SPOTS : mg "B_SPOTS" = some (.ref A.k_B_SPOTS)
  sq_B_SPOTS : TupK K A.k_B_SPOTS [12, 10, 8]
  gr_C_SPOTS : mg "C_SPOTS" = some (.ref A.k_C_SPOTS)
  sq_C_SPOTS : TupK K A.k_C_SPOTS [5, 3, 1]
  gr_D_SPOTS : mg "D_SPOTS" = some (.ref A.k_D_SPOTS)
  sq_D_SPOTS : TupK K A.k_D_SPOTS [13, 11, 9]
  gi_PARTS : ∃ t, mg "PARTS" = some (.int (131072) t)
  gi_HALF_ZONE : ∃ t, mg "HALF_ZONE" = some (.int (65536) t)
  gi_CIRCLE_TOLD : ∃ t, mg "CIRCLE_TOLD" = some (.int (3600000000) t)
  gi_CIRCLE_AT_EDGES : ∃ t, mg "CIRCLE_AT_EDGES" = some (.int (36000000000) t)
  gi_MOST_ZONES : ∃ t, mg "MOST_ZONES" = some (.int (59) t)
  gr_EDGES : mg "EDGES" = some (.ref A.k_EDGES)
  sq_EDGES : TupK K A.k_EDGES [1047047130, 1482817437, 1818626357, 2102939493, 2354504487, 2582924707, 2793898710, 2991135686, 3177209708, 3353993436, 3522899598, 3685025108, 3841241892, 3992256684, 4138651832, 4280914012, 4419454951, 4554626723, 4686733252, 4816039128, 4942776439, 5067150166, 5189342469, 5309516153, 5427817472, 5544378444, 5659318756, 5772747354, 5884763776, 5995459277, 6104917774, 6213216659, 6320427479, 6426616523, 6531845310, 6636171008, 6739646774, 6842322022, 6944242631, 7045451075, 7145986473, 7245884545, 7345177442, 7443893416, 7542056257, 7639684391, 7736789461, 7833374083, 7929428225, 8024923213, 8119801349, 8213956981, 8307199445, 8399173563, 8489166191, 8575541621, 8653536998, 8700000000]
  gi_EVEN_ZONES : ∃ t, mg "EVEN_ZONES" = some (.int (60) t)
  gi_ODD_ZONES : ∃ t, mg "ODD_ZONES" = some (.int (59) t)
  gi_EXTENDED_LENGTH : ∃ t, mg "EXTENDED_LENGTH" = some (.int (56) t)
  gi_NAME_LENGTH : ∃ t, mg "NAME_LENGTH" = some (.int (8) t)
  gr_NAME_KINDS : mg "NAME_KINDS" = some (.ref A.k_NAME_KINDS)
  sq_NAME_KINDS : TupK K A.k_NAME_KINDS [1, 2, 3, 4]
  gr_HEIGHT_KINDS : mg "HEIGHT_KINDS" = some (.ref A.k_HEIGHT_KINDS)
  sq_HEIGHT_KINDS : TupK K A.k_HEIGHT_KINDS [9, 10, 11, 12, 13, 14, 15, 16, 17, 18]
  gr_HALF_KINDS : mg "HALF_KINDS" = some (.ref A.k_HALF_KINDS)
  sq_HALF_KINDS : TupK K A.k_HALF_KINDS [9, 10, 11, 12, 13, 14, 15, 16, 17, 18, 20, 21, 22]
  gi_SPEED_KIND : ∃ t, mg "SPEED_KIND" = some (.int (19) t)
  gr_SPEED_STEPS : mg "SPEED_STEPS" = some (.ref A.k_SPEED_STEPS)
  dk_SPEED_STEPS : DctK K A.k_SPEED_STEPS [(1, 1), (2, 4)]
  gi_CLIMB_STEP : ∃ t, mg "CLIMB_STEP" = some (.int (64) t)
  gi_OLDEST_HALF : ∃ t, mg "OLDEST_HALF" = some (.int (10000) t)
  gi_OLDEST_PLACE : ∃ t, mg "OLDEST_PLACE" = some (.int (60000) t)
  gi_UNKNOWN : ∃ t, mg "UNKNOWN" = some (.int (-2147483648) t)
  gi_NEW : ∃ t, mg "NEW" = some (.int (0) t)
  gi_MESSAGE : ∃ t, mg "MESSAGE" = some (.int (1) t)
  gi_COUNT : ∃ t, mg "COUNT" = some (.int (2) t)
  gi_FIND : ∃ t, mg "FIND" = some (.int (3) t)
  gi_AT : ∃ t, mg "AT" = some (.int (4) t)
  gi_NAME : ∃ t, mg "NAME" = some (.int (5) t)
  gr_CALLS_WITH_ONE_NUMBER : mg "CALLS_WITH_ONE_NUMBER" = some (.ref A.k_CALLS_WITH_ONE_NUMBER)
  sq_CALLS_WITH_ONE_NUMBER : TupK K A.k_CALLS_WITH_ONE_NUMBER [3, 4, 5]
  gi_TOLD : ∃ t, mg "TOLD" = some (.int (0) t)
  gi_NOBODY : ∃ t, mg "NOBODY" = some (.int (-1) t)
  gi_NO_NAME : ∃ t, mg "NO_NAME" = some (.int (-2) t)
  gi_TAKEN : ∃ t, mg "TAKEN" = some (.int (0) t)
  gi_TAKEN_WITH_A_BIT_TURNED : ∃ t, mg "TAKEN_WITH_A_BIT_TURNED" = some (.int (1) t)
  gi_NOT_READ : ∃ t, mg "NOT_READ" = some (.int (-1) t)
  gi_NOT_RIGHT : ∃ t, mg "NOT_RIGHT" = some (.int (-2) t)
  gi_NOT_KNOWN : ∃ t, mg "NOT_KNOWN" = some (.int (-3) t)
  gi_WRONG_TIME : ∃ t, mg "WRONG_TIME" = some (.int (-4) t)
  gi_TIMES_END : ∃ t, mg "TIMES_END" = some (.int (2147483648) t)
  gi_LONGEST_SILENCE : ∃ t, mg "LONGEST_SILENCE" = some (.int (300000) t)
  gi_MOST_AIRCRAFT : ∃ t, mg "MOST_AIRCRAFT" = some (.int (256) t)
  gr_LENGTHS : mg "LENGTHS" = some (.ref A.k_LENGTHS)
  sq_LENGTHS : TupK K A.k_LENGTHS [7, 14]
  gr_FORMATS : mg "FORMATS" = some (.ref A.k_FORMATS)
  dk_FORMATS : DctK K A.k_FORMATS [(4, 7), (5, 7), (11, 7), (17, 14), (18, 14), (20, 14), (21, 14)]
  gr_HEIGHT_FORMATS : mg "HEIGHT_FORMATS" = some (.ref A.k_HEIGHT_FORMATS)
  sq_HEIGHT_FORMATS : TupK K A.k_HEIGHT_FORMATS [4, 20]
  gr_IDENTITY_FORMATS : mg "IDENTITY_FORMATS" = some (.ref A.k_IDENTITY_FORMATS)
  sq_IDENTITY_FORMATS : TupK K A.k_IDENTITY_FORMATS [5, 21]
  gi_PRESENCE_FORMAT : ∃ t, mg "PRESENCE_FORMAT" = some (.int (11) t)
  gi_OTHERS_EXTENDED_FORMAT : ∃ t, mg "OTHERS_EXTENDED_FORMAT" = some (.int (18) t)
  nb_range : mg "range" = none
  nb_max : mg "max" = none
  nb_abs : mg "abs" = none
  nb_enumerate : mg "enumerate" = none
  nb_len : mg "len" = none
  nb_ord : mg "ord" = none
section
variable {K : PySem.W.Frag} {mg : Str → Option Value} {A : Ad}
theorem b_number_of_bytes (T : Txt K mg A) : Binds K A.d_number_of_bytes ["row"] [] := T.fn_number_of_bytes.binds fun _ _ _ _ _ _ us hl => match us, hl with | [_], _ => rfl
theorem sc_number_of_bytes : FnScope ["row", "number", "byte"] ["row"] (defScope s_number_of_bytes) := ⟨rfl, rfl, rfl, by decide +kernel, rfl, by decide +kernel, by decide +kernel⟩
theorem b_bits_between (T : Txt K mg A) : Binds K A.d_bits_between ["number", "length", "first", "last"] [] := T.fn_bits_between.binds fun _ _ _ _ _ _ us hl => match us, hl with | [_, _, _, _], _ => rfl
theorem sc_bits_between : FnScope ["number", "length", "first", "last"] ["number", "length", "first", "last"] (defScope s_bits_between) := ⟨rfl, rfl, rfl, by decide +kernel, rfl, by decide +kernel, by decide +kernel⟩
theorem b_rest_of (T : Txt K mg A) : Binds K A.d_rest_of ["number", "length"] [] := T.fn_rest_of.binds fun _ _ _ _ _ _ us hl => match us, hl with | [_, _], _ => rfl
theorem sc_rest_of : FnScope ["number", "length", "rest", "power"] ["number", "length"] (defScope s_rest_of) := ⟨rfl, rfl, rfl, by decide +kernel, rfl, by decide +kernel, by decide +kernel⟩
theorem b_with_one_bit_turned (T : Txt K mg A) : Binds K A.d_with_one_bit_turned ["number", "length"] [] := T.fn_with_one_bit_turned.binds fun _ _ _ _ _ _ us hl => match us, hl with | [_, _], _ => rfl
theorem sc_with_one_bit_turned : FnScope ["number", "length", "rest", "lone_rest", "power"] ["number", "length"] (defScope s_with_one_bit_turned) := ⟨rfl, rfl, rfl, by decide +kernel, rfl, by decide +kernel, by decide +kernel⟩
theorem b_picked (T : Txt K mg A) : Binds K A.d_picked ["code", "spots"] [] := T.fn_picked.binds fun _ _ _ _ _ _ us hl => match us, hl with | [_, _], _ => rfl
theorem sc_picked : FnScope ["code", "spots", "number", "spot"] ["code", "spots"] (defScope s_picked) := ⟨rfl, rfl, rfl, by decide +kernel, rfl, by decide +kernel, by decide +kernel⟩
theorem b_turned_back (T : Txt K mg A) : Binds K A.d_turned_back ["number"] [] := T.fn_turned_back.binds fun _ _ _ _ _ _ us hl => match us, hl with | [_], _ => rfl
theorem sc_turned_back : FnScope ["number", "turned"] ["number"] (defScope s_turned_back) := ⟨rfl, rfl, rfl, by decide +kernel, rfl, by decide +kernel, by decide +kernel⟩
theorem b_height_of (T : Txt K mg A) : Binds K A.d_height_of ["code"] [] := T.fn_height_of.binds fun _ _ _ _ _ _ us hl => match us, hl with | [_], _ => rfl
theorem sc_height_of : FnScope ["code"] ["code"] (defScope s_height_of) := ⟨rfl, rfl, rfl, by decide +kernel, rfl, by decide +kernel, by decide +kernel⟩
theorem b_height_by_hundreds (T : Txt K mg A) : Binds K A.d_height_by_hundreds ["code"] [] := T.fn_height_by_hundreds.binds fun _ _ _ _ _ _ us hl => match us, hl with | [_], _ => rfl
theorem sc_height_by_hundreds : FnScope ["code", "five_hundreds", "hundreds"] ["code"] (defScope s_height_by_hundreds) := ⟨rfl, rfl, rfl, by decide +kernel, rfl, by decide +kernel, by decide +kernel⟩
theorem b_identity_of (T : Txt K mg A) : Binds K A.d_identity_of ["code"] [] := T.fn_identity_of.binds fun _ _ _ _ _ _ us hl => match us, hl with | [_], _ => rfl
theorem sc_identity_of : FnScope ["code", "thousands"] ["code"] (defScope s_identity_of) := ⟨rfl, rfl, rfl, by decide +kernel, rfl, by decide +kernel, by decide +kernel⟩
theorem b_Angle___init__ (T : Txt K mg A) : Binds K A.d_Angle___init__ ["self", "parts", "zones"] [] := T.fn_Angle___init__.binds fun _ _ _ _ _ _ us hl => match us, hl with | [_, _, _], _ => rfl
theorem sc_Angle___init__ : FnScope ["self", "parts", "zones"] ["self", "parts", "zones"] (defScope s_Angle___init__) := ⟨rfl, rfl, rfl, by decide +kernel, rfl, by decide +kernel, by decide +kernel⟩
theorem b_Angle_circle (T : Txt K mg A) : Binds K A.d_Angle_circle ["self"] [] := T.fn_Angle_circle.binds fun _ _ _ _ _ _ us hl => match us, hl with | [_], _ => rfl
theorem sc_Angle_circle : FnScope ["self"] ["self"] (defScope s_Angle_circle) := ⟨rfl, rfl, rfl, by decide +kernel, rfl, by decide +kernel, by decide +kernel⟩
theorem b_Angle_told (T : Txt K mg A) : Binds K A.d_Angle_told ["self"] [] := T.fn_Angle_told.binds fun _ _ _ _ _ _ us hl => match us, hl with | [_], _ => rfl
theorem sc_Angle_told : FnScope ["self"] ["self"] (defScope s_Angle_told) := ⟨rfl, rfl, rfl, by decide +kernel, rfl, by decide +kernel, by decide +kernel⟩
theorem b_Angle_reaches (T : Txt K mg A) : Binds K A.d_Angle_reaches ["self", "quarters"] [] := T.fn_Angle_reaches.binds fun _ _ _ _ _ _ us hl => match us, hl with | [_, _], _ => rfl
theorem sc_Angle_reaches : FnScope ["self", "quarters"] ["self", "quarters"] (defScope s_Angle_reaches) := ⟨rfl, rfl, rfl, by decide +kernel, rfl, by decide +kernel, by decide +kernel⟩
theorem b_Angle_moved (T : Txt K mg A) : Binds K A.d_Angle_moved ["self", "circles"] [] := T.fn_Angle_moved.binds fun _ _ _ _ _ _ us hl => match us, hl with | [_, _], _ => rfl
theorem sc_Angle_moved : FnScope ["self", "circles"] ["self", "circles"] (defScope s_Angle_moved) := ⟨rfl, rfl, rfl, by decide +kernel, rfl, by decide +kernel, by decide +kernel⟩
theorem b_beyond_a_pole (T : Txt K mg A) : Binds K A.d_beyond_a_pole ["latitude"] [] := T.fn_beyond_a_pole.binds fun _ _ _ _ _ _ us hl => match us, hl with | [_], _ => rfl
theorem sc_beyond_a_pole : FnScope ["latitude"] ["latitude"] (defScope s_beyond_a_pole) := ⟨rfl, rfl, rfl, by decide +kernel, rfl, by decide +kernel, by decide +kernel⟩
theorem b_zones_of_longitude (T : Txt K mg A) : Binds K A.d_zones_of_longitude ["latitude"] [] := T.fn_zones_of_longitude.binds fun _ _ _ _ _ _ us hl => match us, hl with | [_], _ => rfl
theorem sc_zones_of_longitude : FnScope ["latitude", "size", "zones", "edge"] ["latitude"] (defScope s_zones_of_longitude) := ⟨rfl, rfl, rfl, by decide +kernel, rfl, by decide +kernel, by decide +kernel⟩
theorem b_nearest_angle (T : Txt K mg A) : Binds K A.d_nearest_angle ["known", "zones", "within"] [] := T.fn_nearest_angle.binds fun _ _ _ _ _ _ us hl => match us, hl with | [_, _, _], _ => rfl
theorem sc_nearest_angle : FnScope ["known", "zones", "within", "known_parts", "further"] ["known", "zones", "within"] (defScope s_nearest_angle) := ⟨rfl, rfl, rfl, by decide +kernel, rfl, by decide +kernel, by decide +kernel⟩
theorem b_Half___init__ (T : Txt K mg A) : Binds K A.d_Half___init__ ["self", "odd", "y", "x", "heard"] [] := T.fn_Half___init__.binds fun _ _ _ _ _ _ us hl => match us, hl with | [_, _, _, _, _], _ => rfl
theorem sc_Half___init__ : FnScope ["self", "odd", "y", "x", "heard"] ["self", "odd", "y", "x", "heard"] (defScope s_Half___init__) := ⟨rfl, rfl, rfl, by decide +kernel, rfl, by decide +kernel, by decide +kernel⟩
theorem b_Place___init__ (T : Txt K mg A) : Binds K A.d_Place___init__ ["self", "latitude", "longitude"] [] := T.fn_Place___init__.binds fun _ _ _ _ _ _ us hl => match us, hl with | [_, _, _], _ => rfl
theorem sc_Place___init__ : FnScope ["self", "latitude", "longitude"] ["self", "latitude", "longitude"] (defScope s_Place___init__) := ⟨rfl, rfl, rfl, by decide +kernel, rfl, by decide +kernel, by decide +kernel⟩
theorem b_place_out_of_halves (T : Txt K mg A) : Binds K A.d_place_out_of_halves ["last", "other"] [] := T.fn_place_out_of_halves.binds fun _ _ _ _ _ _ us hl => match us, hl with | [_, _], _ => rfl
theorem sc_place_out_of_halves : FnScope ["last", "other", "even", "odd", "j", "even_latitude", "odd_latitude", "k", "m", "longitude", "latitude"] ["last", "other"] (defScope s_place_out_of_halves) := ⟨rfl, rfl, rfl, by decide +kernel, rfl, by decide +kernel, by decide +kernel⟩
theorem b_place_near (T : Txt K mg A) : Binds K A.d_place_near ["known", "half"] [] := T.fn_place_near.binds fun _ _ _ _ _ _ us hl => match us, hl with | [_, _], _ => rfl
theorem sc_place_near : FnScope ["known", "half", "zones", "latitude", "longitude"] ["known", "half"] (defScope s_place_near) := ⟨rfl, rfl, rfl, by decide +kernel, rfl, by decide +kernel, by decide +kernel⟩
theorem b_nearest_whole_zone (T : Txt K mg A) : Binds K A.d_nearest_whole_zone ["parts"] [] := T.fn_nearest_whole_zone.binds fun _ _ _ _ _ _ us hl => match us, hl with | [_], _ => rfl
theorem sc_nearest_whole_zone : FnScope ["parts"] ["parts"] (defScope s_nearest_whole_zone) := ⟨rfl, rfl, rfl, by decide +kernel, rfl, by decide +kernel, by decide +kernel⟩
theorem b_latitude_in_zone (T : Txt K mg A) : Binds K A.d_latitude_in_zone ["j", "zones", "y"] [] := T.fn_latitude_in_zone.binds fun _ _ _ _ _ _ us hl => match us, hl with | [_, _, _], _ => rfl
theorem sc_latitude_in_zone : FnScope ["j", "zones", "y", "latitude"] ["j", "zones", "y"] (defScope s_latitude_in_zone) := ⟨rfl, rfl, rfl, by decide +kernel, rfl, by decide +kernel, by decide +kernel⟩
theorem b_longitude_in_zone (T : Txt K mg A) : Binds K A.d_longitude_in_zone ["m", "zones", "x"] [] := T.fn_longitude_in_zone.binds fun _ _ _ _ _ _ us hl => match us, hl with | [_, _, _], _ => rfl
theorem sc_longitude_in_zone : FnScope ["m", "zones", "x"] ["m", "zones", "x"] (defScope s_longitude_in_zone) := ⟨rfl, rfl, rfl, by decide +kernel, rfl, by decide +kernel, by decide +kernel⟩
theorem b_zones_for_half (T : Txt K mg A) : Binds K A.d_zones_for_half ["k", "half"] [] := T.fn_zones_for_half.binds fun _ _ _ _ _ _ us hl => match us, hl with | [_, _], _ => rfl
theorem sc_zones_for_half : FnScope ["k", "half"] ["k", "half"] (defScope s_zones_for_half) := ⟨rfl, rfl, rfl, by decide +kernel, rfl, by decide +kernel, by decide +kernel⟩
theorem b_within_half_a_circle (T : Txt K mg A) : Binds K A.d_within_half_a_circle ["longitude"] [] := T.fn_within_half_a_circle.binds fun _ _ _ _ _ _ us hl => match us, hl with | [_], _ => rfl
theorem sc_within_half_a_circle : FnScope ["longitude"] ["longitude"] (defScope s_within_half_a_circle) := ⟨rfl, rfl, rfl, by decide +kernel, rfl, by decide +kernel, by decide +kernel⟩
theorem b_bits_in (T : Txt K mg A) : Binds K A.d_bits_in ["extended", "first", "last"] [] := T.fn_bits_in.binds fun _ _ _ _ _ _ us hl => match us, hl with | [_, _, _], _ => rfl
theorem sc_bits_in : FnScope ["extended", "first", "last"] ["extended", "first", "last"] (defScope s_bits_in) := ⟨rfl, rfl, rfl, by decide +kernel, rfl, by decide +kernel, by decide +kernel⟩
theorem b_kind_of (T : Txt K mg A) : Binds K A.d_kind_of ["extended"] [] := T.fn_kind_of.binds fun _ _ _ _ _ _ us hl => match us, hl with | [_], _ => rfl
theorem sc_kind_of : FnScope ["extended"] ["extended"] (defScope s_kind_of) := ⟨rfl, rfl, rfl, by decide +kernel, rfl, by decide +kernel, by decide +kernel⟩
theorem b_name_in (T : Txt K mg A) : Binds K A.d_name_in ["extended"] [] := T.fn_name_in.binds fun _ _ _ _ _ _ us hl => match us, hl with | [_], _ => rfl
theorem sc_name_in : FnScope ["extended", "name", "spot", "first", "byte"] ["extended"] (defScope s_name_in) := ⟨rfl, rfl, rfl, by decide +kernel, rfl, by decide +kernel, by decide +kernel⟩
theorem b_name_byte (T : Txt K mg A) : Binds K A.d_name_byte ["sign"] [] := T.fn_name_byte.binds fun _ _ _ _ _ _ us hl => match us, hl with | [_], _ => rfl
theorem sc_name_byte : FnScope ["sign"] ["sign"] (defScope s_name_byte) := ⟨rfl, rfl, rfl, by decide +kernel, rfl, by decide +kernel, by decide +kernel⟩
theorem b_height_in (T : Txt K mg A) : Binds K A.d_height_in ["extended"] [] := T.fn_height_in.binds fun _ _ _ _ _ _ us hl => match us, hl with | [_], _ => rfl
theorem sc_height_in : FnScope ["extended"] ["extended"] (defScope s_height_in) := ⟨rfl, rfl, rfl, by decide +kernel, rfl, by decide +kernel, by decide +kernel⟩
theorem b_half_in (T : Txt K mg A) : Binds K A.d_half_in ["extended", "now"] [] := T.fn_half_in.binds fun _ _ _ _ _ _ us hl => match us, hl with | [_, _], _ => rfl
theorem sc_half_in : FnScope ["extended", "now"] ["extended", "now"] (defScope s_half_in) := ⟨rfl, rfl, rfl, by decide +kernel, rfl, by decide +kernel, by decide +kernel⟩
theorem b_speed_step_in (T : Txt K mg A) : Binds K A.d_speed_step_in ["extended"] [] := T.fn_speed_step_in.binds fun _ _ _ _ _ _ us hl => match us, hl with | [_], _ => rfl
theorem sc_speed_step_in : FnScope ["extended"] ["extended"] (defScope s_speed_step_in) := ⟨rfl, rfl, rfl, by decide +kernel, rfl, by decide +kernel, by decide +kernel⟩
theorem b_speeds_in (T : Txt K mg A) : Binds K A.d_speeds_in ["extended"] [] := T.fn_speeds_in.binds fun _ _ _ _ _ _ us hl => match us, hl with | [_], _ => rfl
theorem sc_speeds_in : FnScope ["extended", "step", "east", "north", "east_speed"] ["extended"] (defScope s_speeds_in) := ⟨rfl, rfl, rfl, by decide +kernel, rfl, by decide +kernel, by decide +kernel⟩
theorem b_climb_in (T : Txt K mg A) : Binds K A.d_climb_in ["extended"] [] := T.fn_climb_in.binds fun _ _ _ _ _ _ us hl => match us, hl with | [_], _ => rfl
theorem sc_climb_in : FnScope ["extended", "steps"] ["extended"] (defScope s_climb_in) := ⟨rfl, rfl, rfl, by decide +kernel, rfl, by decide +kernel, by decide +kernel⟩
theorem b_signed (T : Txt K mg A) : Binds K A.d_signed ["size", "negative"] [] := T.fn_signed.binds fun _ _ _ _ _ _ us hl => match us, hl with | [_, _], _ => rfl
theorem sc_signed : FnScope ["size", "negative"] ["size", "negative"] (defScope s_signed) := ⟨rfl, rfl, rfl, by decide +kernel, rfl, by decide +kernel, by decide +kernel⟩
theorem b_Aircraft___init__ (T : Txt K mg A) : Binds K A.d_Aircraft___init__ ["self", "address"] [] := T.fn_Aircraft___init__.binds fun _ _ _ _ _ _ us hl => match us, hl with | [_, _], _ => rfl
theorem sc_Aircraft___init__ : FnScope ["self", "address"] ["self", "address"] (defScope s_Aircraft___init__) := ⟨rfl, rfl, rfl, by decide +kernel, rfl, by decide +kernel, by decide +kernel⟩
theorem b_Aircraft_numbers_at (T : Txt K mg A) : Binds K A.d_Aircraft_numbers_at ["self", "now"] [] := T.fn_Aircraft_numbers_at.binds fun _ _ _ _ _ _ us hl => match us, hl with | [_, _], _ => rfl
theorem sc_Aircraft_numbers_at : FnScope ["self", "now", "latitude", "longitude", "numbers", "number"] ["self", "now"] (defScope s_Aircraft_numbers_at) := ⟨rfl, rfl, rfl, by decide +kernel, rfl, by decide +kernel, by decide +kernel⟩
theorem b_Aircraft_take_height (T : Txt K mg A) : Binds K A.d_Aircraft_take_height ["self", "height"] [] := T.fn_Aircraft_take_height.binds fun _ _ _ _ _ _ us hl => match us, hl with | [_, _], _ => rfl
theorem sc_Aircraft_take_height : FnScope ["self", "height"] ["self", "height"] (defScope s_Aircraft_take_height) := ⟨rfl, rfl, rfl, by decide +kernel, rfl, by decide +kernel, by decide +kernel⟩
theorem b_Aircraft_take_extended (T : Txt K mg A) : Binds K A.d_Aircraft_take_extended ["self", "extended", "now"] [] := T.fn_Aircraft_take_extended.binds fun _ _ _ _ _ _ us hl => match us, hl with | [_, _, _], _ => rfl
theorem sc_Aircraft_take_extended : FnScope ["self", "extended", "now", "name", "half", "speeds", "climb"] ["self", "extended", "now"] (defScope s_Aircraft_take_extended) := ⟨rfl, rfl, rfl, by decide +kernel, rfl, by decide +kernel, by decide +kernel⟩
theorem b_Aircraft_take_half (T : Txt K mg A) : Binds K A.d_Aircraft_take_half ["self", "half"] [] := T.fn_Aircraft_take_half.binds fun _ _ _ _ _ _ us hl => match us, hl with | [_, _], _ => rfl
theorem sc_Aircraft_take_half : FnScope ["self", "half", "place"] ["self", "half"] (defScope s_Aircraft_take_half) := ⟨rfl, rfl, rfl, by decide +kernel, rfl, by decide +kernel, by decide +kernel⟩
theorem b_Aircraft_place_by_both (T : Txt K mg A) : Binds K A.d_Aircraft_place_by_both ["self", "half"] [] := T.fn_Aircraft_place_by_both.binds fun _ _ _ _ _ _ us hl => match us, hl with | [_, _], _ => rfl
theorem sc_Aircraft_place_by_both : FnScope ["self", "half", "other"] ["self", "half"] (defScope s_Aircraft_place_by_both) := ⟨rfl, rfl, rfl, by decide +kernel, rfl, by decide +kernel, by decide +kernel⟩
theorem b_Aircraft_place_by_known (T : Txt K mg A) : Binds K A.d_Aircraft_place_by_known ["self", "half"] [] := T.fn_Aircraft_place_by_known.binds fun _ _ _ _ _ _ us hl => match us, hl with | [_, _], _ => rfl
theorem sc_Aircraft_place_by_known : FnScope ["self", "half"] ["self", "half"] (defScope s_Aircraft_place_by_known) := ⟨rfl, rfl, rfl, by decide +kernel, rfl, by decide +kernel, by decide +kernel⟩
theorem b_Receiver___init__ (T : Txt K mg A) : Binds K A.d_Receiver___init__ ["self"] [] := T.fn_Receiver___init__.binds fun _ _ _ _ _ _ us hl => match us, hl with | [_], _ => rfl
theorem sc_Receiver___init__ : FnScope ["self"] ["self"] (defScope s_Receiver___init__) := ⟨rfl, rfl, rfl, by decide +kernel, rfl, by decide +kernel, by decide +kernel⟩
theorem b_Receiver_begin (T : Txt K mg A) : Binds K A.d_Receiver_begin ["self"] [] := T.fn_Receiver_begin.binds fun _ _ _ _ _ _ us hl => match us, hl with | [_], _ => rfl
theorem sc_Receiver_begin : FnScope ["self"] ["self"] (defScope s_Receiver_begin) := ⟨rfl, rfl, rfl, by decide +kernel, rfl, by decide +kernel, by decide +kernel⟩
theorem b_Receiver_take_message (T : Txt K mg A) : Binds K A.d_Receiver_take_message ["self", "n", "t", "row"] [] := T.fn_Receiver_take_message.binds fun _ _ _ _ _ _ us hl => match us, hl with | [_, _, _, _], _ => rfl
theorem sc_Receiver_take_message : FnScope ["self", "n", "t", "row", "message", "layout"] ["self", "n", "t", "row"] (defScope s_Receiver_take_message) := ⟨rfl, rfl, rfl, by decide +kernel, rfl, by decide +kernel, by decide +kernel⟩
theorem b_Receiver_set_time (T : Txt K mg A) : Binds K A.d_Receiver_set_time ["self", "t"] [] := T.fn_Receiver_set_time.binds fun _ _ _ _ _ _ us hl => match us, hl with | [_, _], _ => rfl
theorem sc_Receiver_set_time : FnScope ["self", "t", "aircraft"] ["self", "t"] (defScope s_Receiver_set_time) := ⟨rfl, rfl, rfl, by decide +kernel, rfl, by decide +kernel, by decide +kernel⟩
theorem b_Receiver_take_reply (T : Txt K mg A) : Binds K A.d_Receiver_take_reply ["self", "message", "length", "layout"] [] := T.fn_Receiver_take_reply.binds fun _ _ _ _ _ _ us hl => match us, hl with | [_, _, _, _], _ => rfl
theorem sc_Receiver_take_reply : FnScope ["self", "message", "length", "layout", "spot", "aircraft", "code"] ["self", "message", "length", "layout"] (defScope s_Receiver_take_reply) := ⟨rfl, rfl, rfl, by decide +kernel, rfl, by decide +kernel, by decide +kernel⟩
theorem b_Receiver_take_squitter (T : Txt K mg A) : Binds K A.d_Receiver_take_squitter ["self", "message", "length", "layout"] [] := T.fn_Receiver_take_squitter.binds fun _ _ _ _ _ _ us hl => match us, hl with | [_, _, _, _], _ => rfl
theorem sc_Receiver_take_squitter : FnScope ["self", "message", "length", "layout", "answer", "aircraft"] ["self", "message", "length", "layout"] (defScope s_Receiver_take_squitter) := ⟨rfl, rfl, rfl, by decide +kernel, rfl, by decide +kernel, by decide +kernel⟩
theorem b_Receiver_spot_of (T : Txt K mg A) : Binds K A.d_Receiver_spot_of ["self", "address"] [] := T.fn_Receiver_spot_of.binds fun _ _ _ _ _ _ us hl => match us, hl with | [_, _], _ => rfl
theorem sc_Receiver_spot_of : FnScope ["self", "address", "spot", "aircraft"] ["self", "address"] (defScope s_Receiver_spot_of) := ⟨rfl, rfl, rfl, by decide +kernel, rfl, by decide +kernel, by decide +kernel⟩
theorem b_Receiver_known_or_new (T : Txt K mg A) : Binds K A.d_Receiver_known_or_new ["self", "address"] [] := T.fn_Receiver_known_or_new.binds fun _ _ _ _ _ _ us hl => match us, hl with | [_, _], _ => rfl
theorem sc_Receiver_known_or_new : FnScope ["self", "address", "spot"] ["self", "address"] (defScope s_Receiver_known_or_new) := ⟨rfl, rfl, rfl, by decide +kernel, rfl, by decide +kernel, by decide +kernel⟩
theorem b_Receiver_hear (T : Txt K mg A) : Binds K A.d_Receiver_hear ["self", "aircraft"] [] := T.fn_Receiver_hear.binds fun _ _ _ _ _ _ us hl => match us, hl with | [_, _], _ => rfl
theorem sc_Receiver_hear : FnScope ["self", "aircraft", "others", "other"] ["self", "aircraft"] (defScope s_Receiver_hear) := ⟨rfl, rfl, rfl, by decide +kernel, rfl, by decide +kernel, by decide +kernel⟩
theorem b_Receiver_how_many (T : Txt K mg A) : Binds K A.d_Receiver_how_many ["self"] [] := T.fn_Receiver_how_many.binds fun _ _ _ _ _ _ us hl => match us, hl with | [_], _ => rfl
theorem sc_Receiver_how_many : FnScope ["self"] ["self"] (defScope s_Receiver_how_many) := ⟨rfl, rfl, rfl, by decide +kernel, rfl, by decide +kernel, by decide +kernel⟩
theorem b_Receiver_tell_numbers (T : Txt K mg A) : Binds K A.d_Receiver_tell_numbers ["self", "i"] [] := T.fn_Receiver_tell_numbers.binds fun _ _ _ _ _ _ us hl => match us, hl with | [_, _], _ => rfl
theorem sc_Receiver_tell_numbers : FnScope ["self", "i"] ["self", "i"] (defScope s_Receiver_tell_numbers) := ⟨rfl, rfl, rfl, by decide +kernel, rfl, by decide +kernel, by decide +kernel⟩
theorem b_Receiver_tell_name (T : Txt K mg A) : Binds K A.d_Receiver_tell_name ["self", "i"] [] := T.fn_Receiver_tell_name.binds fun _ _ _ _ _ _ us hl => match us, hl with | [_, _], _ => rfl
theorem sc_Receiver_tell_name : FnScope ["self", "i", "name"] ["self", "i"] (defScope s_Receiver_tell_name) := ⟨rfl, rfl, rfl, by decide +kernel, rfl, by decide +kernel, by decide +kernel⟩
theorem b_size_of_call (T : Txt K mg A) : Binds K A.d_size_of_call ["calls", "spot"] [] := T.fn_size_of_call.binds fun _ _ _ _ _ _ us hl => match us, hl with | [_, _], _ => rfl
theorem sc_size_of_call : FnScope ["calls", "spot"] ["calls", "spot"] (defScope s_size_of_call) := ⟨rfl, rfl, rfl, by decide +kernel, rfl, by decide +kernel, by decide +kernel⟩
theorem b_answer_of (T : Txt K mg A) : Binds K A.d_answer_of ["receiver", "call"] [] := T.fn_answer_of.binds fun _ _ _ _ _ _ us hl => match us, hl with | [_, _], _ => rfl
theorem sc_answer_of : FnScope ["receiver", "call", "number"] ["receiver", "call"] (defScope s_answer_of) := ⟨rfl, rfl, rfl, by decide +kernel, rfl, by decide +kernel, by decide +kernel⟩
theorem b_answers (T : Txt K mg A) : Binds K A.d_answers ["calls"] [] := T.fn_answers.binds fun _ _ _ _ _ _ us hl => match us, hl with | [_], _ => rfl
theorem sc_answers : FnScope ["calls", "receiver", "given", "spot", "size", "answer"] ["calls"] (defScope s_answers) := ⟨rfl, rfl, rfl, by decide +kernel, rfl, by decide +kernel, by decide +kernel⟩
end

end Ph

namespace Ph
open PySem L2
section
variable {P : Program} {w : World} {K : PySem.W.Frag} {mg : Str → Option Value} {base : Heap} {A : Ad}
theorem pe_gR {X : Cx} {x : Str} {a : Addr} {pos : Pos} (hg : Gl X x) (hm : X.mg x = some (.ref a)) (hd : (x == ("__debug__" : Str)) = false := by decide) : PE X (.Name x pos) (tC (.ref a)) := pe_glob hg hm (v := .ref a) rfl hd
theorem bt_len : bootBuiltins "len" = some (.builtin "len") := by decide +kernel
theorem bt_abs : bootBuiltins "abs" = some (.builtin "abs") := by decide +kernel
theorem bt_max : bootBuiltins "max" = some (.builtin "max") := by decide +kernel
theorem bt_ord : bootBuiltins "ord" = some (.builtin "ord") := by decide +kernel
theorem inV_ints (i : Int) : ∀ ns : List Int, inV (.int i) (ns.map V.int) = decide (i ∈ ns)
  | [] => by simp [inV]
  | n :: ns => by
    have ih := inV_ints i ns
    unfold inV at ih ⊢
    rw [List.map_cons, List.any_cons, ih]
    show ((n == i) || decide (i ∈ ns)) = _
    by_cases e : n = i
    · subst e; simp
    · have e2 : (n == i) = false := by simpa using e
      rw [e2, Bool.false_or]
      apply decide_eq_decide.mpr
      rw [List.mem_cons]
      constructor
      · exact .inr
      · rintro (z | z)
        · exact absurd z.symm e
        · exact z
theorem flat_ints (ns : List Int) : (ns.map V.int).all flatV = true := by
  rw [List.all_eq_true]
  intro x hx
  obtain ⟨i, _, rfl⟩ := List.mem_map.mp hx
  rfl
theorem rin_ints {K : PySem.W.Frag} {H : Hp} {p : Addr} {ns : List Int} {i : Int} {neg : Bool} {Q : VK} (h : SqT K H p (ns.map V.int)) (q : Q (.bl (if neg then !decide (i ∈ ns) else decide (i ∈ ns))) H) : rIn K neg (.int i) (.ref p) H Q :=
  ⟨p, ns.map V.int, rfl, .inr h, rfl, flat_ints ns, by rw [inV_ints]; exact q⟩
theorem Same.new {H : Hp} {p : Addr} {o : HO} (h : H p = none) : Same H (upd H p o) := fun b u e => by
  rw [upd_ne (ne_of_none e h)]
  exact e
/-! ### bits -/
theorem pow_cast (k : Nat) : ((2 ^ k : Nat) : Int) = (2 : Int) ^ k := by rw [Int.natCast_pow]; rfl
theorem and_mask (x k : Nat) : Builtin.bitAnd (x : Int) (1 * 2 ^ k - 1) = ((x % 2 ^ k : Nat) : Int) := by
  rw [Int.one_mul, Bits.bitAnd_mask k (Int.natCast_nonneg x), ← pow_cast]
  exact (Int.natCast_emod x (2 ^ k)).symm
theorem and_one (x : Nat) : Builtin.bitAnd (x : Int) 1 = ((x % 2 : Nat) : Int) := and_mask x 1
theorem div_pow (x k : Nat) : (x : Int) / 2 ^ k = ((x / 2 ^ k : Nat) : Int) := by
  rw [← pow_cast]
  exact (Int.natCast_ediv x (2 ^ k)).symm
theorem mul_pow (x k : Nat) : (x : Int) * 2 ^ k = ((x * 2 ^ k : Nat) : Int) := by
  rw [← pow_cast, Int.natCast_mul]
theorem xor_nat (x y : Nat) : Builtin.bitXor (x : Int) (y : Int) = ((x ^^^ y : Nat) : Int) := Bits.bitXor_pp (Int.natCast_nonneg x) (Int.natCast_nonneg y)
theorem toNat_sub {a b : Nat} (h : b ≤ a) : ((a : Int) - (b : Int)).toNat = a - b := by omega
def sp_bits_between : Sp := fun vs H Q _ => ∃ (m w a l : Nat), vs = [.int m, .int w, .int a, .int l] ∧ 1 ≤ a ∧ a ≤ l ∧ l ≤ w ∧ w ≤ 1000 ∧ Q (.int (Ql35.bits w m a (l + 1 - a) : Nat)) H
theorem ok_bits_between (T : Txt K mg A) : FnOk P w K mg base CX0 1 A.f_bits_between A.d_bits_between ["number", "length", "first", "last"] sp_bits_between := by
  refine T.fn_bits_between.ok sc_bits_between (fun vs H Q E h => ?_) (fun cdv A' outer s H vs Q E hr h => ?_)
  · obtain ⟨m, w, a, l, rfl, _⟩ := h
    rfl
  · obtain ⟨m, w, a, l, rfl, h1, h2, h3, h4, q⟩ := h
    have nd := sc_bits_between.nd
    refine ⟨_, (pss_one (ps_ret (pe_op op_and (pe_op op_shr (pv 0) (pe_op op_sub (pv 1) (pv 3))) (pe_op op_sub (pe_op op_shlL pe_int (pe_op op_add (pe_op op_sub (pv 3) (pv 2)) pe_int)) pe_int)))), ?_⟩
    simp only [rdA, rdB, Nat.reduceAdd, Nat.reduceSub, Nat.reduceLT, List.replicate]
    refine ⟨by omega, ⟨by omega, by omega, by decide⟩, ?_⟩
    have e1 : ((l : Int) - a + 1).toNat = l + 1 - a := by omega
    rw [toNat_sub h3, e1, div_pow, and_mask]
    have e2 : Ql35.bits w m a (l + 1 - a) = m / 2 ^ (w - l) % 2 ^ (l + 1 - a) := by
      unfold Ql35.bits
      have e3 : w - (a + (l + 1 - a) - 1) = w - l := by omega
      rw [e3]
    rw [← e2]
    exact q
theorem or_byte (n b : Nat) (h : b < 256) : Builtin.bitOr ((n : Int) * 2 ^ 8) (b : Int) = ((256 * n + b : Nat) : Int) := by
  have e8 : (2 : Int) ^ 8 = 256 := by decide
  have e := Bits.bitOr_join' (a := (b : Int)) (b := (n : Int)) (k := 8) (Int.natCast_nonneg b) (by omega) (Int.natCast_nonneg n)
  rw [e]
  omega
theorem num_lt : ∀ (b : List Nat), (∀ x ∈ b, x < 256) → ∀ (n k : Nat), n < 2 ^ k → b.foldl (fun n c => 256 * n + c) n < 2 ^ (k + 8 * b.length)
  | [], _, n, k, h => h
  | x :: b, hb, n, k, h => by
    have hx := hb x (List.mem_cons_self)
    have z := num_lt b (fun y hy => hb y (List.mem_cons_of_mem _ hy)) (256 * n + x) (k + 8) (by
      rw [Nat.pow_add]
      have : (2 : Nat) ^ 8 = 256 := by decide
      omega)
    have e : k + 8 + 8 * b.length = k + 8 * (x :: b).length := by simp; omega
    rw [e] at z
    exact z
theorem num_lt0 (b : List Nat) (h : ∀ x ∈ b, x < 256) : Ql35.num b < 2 ^ (8 * b.length) := by
  have z := num_lt b h 0 0 (by decide)
  rw [Nat.zero_add] at z
  exact z
theorem num_take {b : List Nat} {i x : Nat} (h : b[i]? = some x) : Ql35.num (b.take (i + 1)) = 256 * Ql35.num (b.take i) + x := by
  have e : b.take (i + 1) = b.take i ++ [x] := by
    rw [List.take_add_one, h]
    rfl
  unfold Ql35.num
  rw [e, List.foldl_append]
  rfl
def bts (b : List Nat) : List V := b.map fun (x : Nat) => V.int x
def sp_number_of_bytes (K : PySem.W.Frag) : Sp := fun vs H Q _ => ∃ (a : Addr) (b : List Nat), vs = [.ref a] ∧ SqL K H a (bts b) ∧ b.length ≤ 20 ∧ (∀ x ∈ b, x < 256) ∧ Q (.int (Ql35.num b : Nat)) H
theorem ok_number_of_bytes (T : Txt K mg A) : FnOk P w K mg base CX0 1 A.f_number_of_bytes A.d_number_of_bytes ["row"] (sp_number_of_bytes K) := by
  refine T.fn_number_of_bytes.ok sc_number_of_bytes (fun vs H Q E h => ?_) (fun cdv A' outer s H vs Q E hr h => ?_)
  · obtain ⟨a, b, rfl, _⟩ := h
    rfl
  · obtain ⟨a, b, rfl, hS, hl, hb, q⟩ := h
    have nd := sc_number_of_bytes.nd
    refine ⟨_, (pss_cons (ps_set (i := 1) nd rfl (Or.inl rfl) pe_int)
      (pss_cons (ps_for PassesOwn.never rfl (pi_list (pv 0)) (pg_name (i := 2) nd rfl (Or.inl rfl)) (pss_one (ps_set (i := 1) nd rfl (Or.inl rfl) (pe_op op_or (pe_op op_shlL (pv 1) pe_int) (pv 2)))))
      (pss_one (ps_ret (pv 1))))), ?_⟩
    simp only [rdA, rdB, Nat.reduceAdd, Nat.reduceSub, Nat.reduceLT, List.replicate]
    refine ⟨_, rfl, a, rfl, ⟨_, hS⟩, for_list (K := K) (a := a) (xs := bts b) (fun i σ H2 => ∃ v : Option V, σ = [some (.ref a), some (.int (Ql35.num (b.take i) : Nat)), v] ∧ H2 = H) ⟨none, rfl, rfl⟩ (fun i σ H2 _ ⟨_, _, e⟩ => by rw [e]; exact hS) ?_ ?_⟩
    · rintro i y σ H2 hi ⟨v, rfl, rfl⟩
      obtain ⟨x, hx, rfl⟩ : ∃ x, b[i]? = some x ∧ y = V.int (x : Nat) := by
        unfold bts at hi
        rw [List.getElem?_map] at hi
        cases e : b[i]? with
        | none => rw [e] at hi; cases hi
        | some x => rw [e] at hi; exact ⟨x, rfl, (Option.some.inj hi).symm⟩
      have hx2 := hb x (List.mem_of_getElem? hx)
      simp only [rdA, rdB, Nat.reduceAdd, Nat.reduceSub, Nat.reduceLT, List.replicate]
      have hlt : Ql35.num (b.take i) < 2 ^ 200 := by
        have z := num_lt0 (b.take i) fun y hy => hb y (List.mem_of_mem_take hy)
        refine Nat.lt_of_lt_of_le z (Nat.pow_le_pow_right (by decide) ?_)
        have := List.length_take_le' i b
        omega
      refine ⟨⟨by decide, by decide, by simpa using hlt⟩, ?_⟩
      have e8 : (8 : Int).toNat = 8 := rfl
      rw [e8, or_byte _ _ hx2, num_take hx]
    · rintro σ H2 ⟨v, rfl, rfl⟩
      simp only [rdA, rdB, Nat.reduceAdd, Nat.reduceSub, Nat.reduceLT, List.replicate]
      have e : b.take (bts b).length = b := by unfold bts; rw [List.length_map, List.take_length]
      rw [e]
      exact q
theorem bit_one (r k : Nat) : (r / 2 ^ k % 2 = 1) ↔ r.testBit k = true := by
  rw [Nat.testBit_eq_decide_div_mod_eq, decide_eq_true_eq]
theorem bit_eq (r k : Nat) : decide (((r / 2 ^ k % 2 : Nat) : Int) = 1) = r.testBit k := by
  rw [Nat.testBit_eq_decide_div_mod_eq]
  apply decide_eq_decide.mpr
  omega
def sp_rest_of : Sp := fun vs H Q _ => ∃ (m w : Nat), vs = [.int m, .int w] ∧ (w = 56 ∨ w = 112) ∧ Q (.int (Ql35.sum w m : Nat)) H
theorem ok_rest_of (T : Txt K mg A) : FnOk P w K mg base CX0 1 A.f_rest_of A.d_rest_of ["number", "length"] sp_rest_of := by
  refine T.fn_rest_of.ok sc_rest_of (fun vs H Q E h => ?_) (fun cdv A' outer s H vs Q E hr h => ?_)
  · obtain ⟨m, w, rfl, _⟩ := h
    rfl
  · obtain ⟨m, w, rfl, hw, q⟩ := h
    have nd := sc_rest_of.nd
    refine ⟨_, (pss_cons (ps_set (i := 2) nd rfl (Or.inl rfl) (pv 0))
      (pss_cons (ps_for PassesOwn.never rfl (pi_range3 rfl T.nb_range (pa_cons (pe_op op_sub (pv 1) pe_int) (pa_cons (pe_op op_sub (pe_gI rfl T.gi_DIVISOR_POWER) pe_int) (pa_cons (pe_un un_neg pe_int) pa_nil)))) (pg_name (i := 3) nd rfl (Or.inl rfl)) (pss_one (ps_if (pt_cmpR op_eq (pe_op op_and (pe_op op_shr (pv 2) (pv 3)) pe_int) pe_int (nomark _)) (pss_one (ps_set (i := 2) nd rfl (Or.inl rfl) (pe_op op_xor (pv 2) (pe_op op_shlL (pe_gI rfl T.gi_DIVISOR) (pe_op op_sub (pv 3) (pe_gI rfl T.gi_DIVISOR_POWER)))))) pss_nil)))
      (pss_one (ps_ret (pv 2))))), ?_⟩
    simp only [rdA, rdB, Nat.reduceAdd, Nat.reduceSub, Nat.reduceLT, List.replicate]
    refine lp_rng3 ((w : Int) - 1) (24 - 1) (-1) (w - 24) (fun R hR => by simp only [rdA, rdB, Nat.reduceAdd, Nat.reduceSub, Nat.reduceLT, List.replicate]; exact hR) ?_ ?_
    · have z := RgC.neg (i := (w : Int) - 1) (j := 24 - 1) (by omega) (by omega) (by omega) (by omega)
      have e : ((w : Int) - 1 - (24 - 1)).toNat = w - 24 := by omega
      rw [e] at z
      exact z
    refine for_rangeC (fun i σ H2 => ∃ (r : Nat) (v : Option V), σ = [some (.int m), some (.int w), some (.int r), v] ∧ H2 = H ∧ Ql35.rest (w - 24 - i) r = Ql35.sum w m) ⟨m, none, rfl, rfl, rfl⟩ ?_ ?_
    · rintro i σ H2 hi ⟨r, v, rfl, rfl, hr2⟩
      obtain ⟨k, hk⟩ : ∃ k, w - 24 - i = k + 1 := ⟨w - 24 - i - 1, by omega⟩
      have hp : (w : Int) - 1 + (i : Int) * -1 = ((k + 24 : Nat) : Int) := by omega
      have hk2 : w - 24 - (i + 1) = k := by omega
      rw [hk] at hr2
      rw [hp]
      simp only [rdA, rdB, Nat.reduceAdd, Nat.reduceSub, Nat.reduceLT, List.replicate, rEq, scal]
      refine ⟨by omega, ?_⟩
      have e1 : ((k + 24 : Nat) : Int).toNat = k + 24 := by omega
      rw [e1, div_pow, and_one, bit_eq]
      unfold Ql35.rest at hr2
      by_cases hb : r.testBit (k + 24) = true
      · rw [if_pos hb] at hr2 ⊢
        have e2 : (((k + 24 : Nat) : Int) - 24).toNat = k := by omega
        refine ⟨⟨by omega, by omega, by decide⟩, r ^^^ (Ql35.POLY * 2 ^ k), ?_, by rw [hk2]; exact hr2⟩
        rw [e2]
        have e3 : (33551369 : Int) = ((Ql35.POLY : Nat) : Int) := by decide
        rw [e3, mul_pow, xor_nat]
      · rw [if_neg hb] at hr2 ⊢
        exact ⟨r, rfl, by rw [hk2]; exact hr2⟩
    · rintro σ H2 ⟨r, v, rfl, rfl, hr2⟩
      simp only [rdA, rdB, Nat.reduceAdd, Nat.reduceSub, Nat.reduceLT, List.replicate]
      rw [Nat.sub_self] at hr2
      unfold Ql35.rest at hr2
      rw [hr2]
      exact q
def optN : Option Nat → V
  | some v => .int (v : Nat)
  | none => .non
def sp_with_one_bit_turned : Sp := fun vs H Q _ => ∃ (m w : Nat), vs = [.int m, .int w] ∧ (w = 56 ∨ w = 112) ∧ Q (optN ((turnedAt w m).map fun p => m ^^^ 2 ^ p)) H
theorem lone_step (i : Nat) : lone (i + 1) = if lone i * 2 &&& 16777216 ≠ 0 then (lone i * 2) ^^^ Ql35.POLY else lone i * 2 := rfl
theorem and_nat (x y : Nat) : Builtin.bitAnd (x : Int) (y : Int) = ((x &&& y : Nat) : Int) := by
  rfl
theorem ok_with_one_bit_turned (T : Txt K mg A) : FnOk P w K mg base CX0 2 A.f_with_one_bit_turned A.d_with_one_bit_turned ["number", "length"] sp_with_one_bit_turned := by
  refine T.fn_with_one_bit_turned.ok sc_with_one_bit_turned (fun vs H Q E h => ?_) (fun cdv A' outer s H vs Q E hr h => ?_)
  · obtain ⟨m, w, rfl, _⟩ := h
    rfl
  · obtain ⟨m, w, rfl, hw, q⟩ := h
    have nd := sc_with_one_bit_turned.nd
    refine ⟨_, (pss_cons (ps_set (i := 2) nd rfl (Or.inl rfl) (pe_call (ok_rest_of T) (hr.mono (by decide)) rfl T.mg_rest_of T.fn_rest_of.kp (b_rest_of T) .nil pass0 (pa_cons (pv 0) (pa_cons (pv 1) pa_nil))))
      (pss_cons (ps_set (i := 3) nd rfl (Or.inl rfl) pe_int)
      (pss_cons (ps_for PassesOwn.never rfl (pi_range1 rfl T.nb_range (pa_cons (pe_op op_sub (pv 1) (pe_gI rfl T.gi_FORMAT_BITS)) pa_nil)) (pg_name (i := 4) nd rfl (Or.inl rfl)) (pss_cons (ps_if (pt_cmpR op_eq (pv 3) (pv 2) (nomark _)) (pss_one (ps_ret (pe_op op_xor (pv 0) (pe_op op_shlL pe_int (pv 4))))) pss_nil)
      (pss_cons (ps_set (i := 3) nd rfl (Or.inl rfl) (pe_op op_shlL (pv 3) pe_int))
      (pss_one (ps_if (pt_cmpR op_ne (pe_op op_and (pv 3) (pe_gI rfl T.gi_DIVISOR_TOP)) pe_int (nomark _)) (pss_one (ps_set (i := 3) nd rfl (Or.inl rfl) (pe_op op_xor (pv 3) (pe_gI rfl T.gi_DIVISOR)))) pss_nil)))))
      (pss_one (ps_ret pe_non))))), ?_⟩
    simp only [rdA, rdB, Nat.reduceAdd, Nat.reduceSub, Nat.reduceLT, List.replicate]
    refine ⟨m, w, rfl, hw, ?_⟩
    refine lp_rng1 ((w : Int) - 5) (w - 5) (fun R hR => by simp only [rdA, rdB, Nat.reduceAdd, Nat.reduceSub, Nat.reduceLT, List.replicate]; exact hR) (by omega) (by omega) ?_
    refine for_range (fun i σ H2 => ∃ (v : Option V), σ = [some (.int m), some (.int w), some (.int (Ql35.sum w m : Nat)), some (.int (lone i : Nat)), v] ∧ H2 = H ∧ ∀ p, p < i → lone p ≠ Ql35.sum w m) ⟨none, rfl, rfl, fun p hp => by omega⟩ ?_ ?_
    · rintro i σ H2 hi ⟨v, rfl, rfl, hall⟩
      simp only [rdA, rdB, Nat.reduceAdd, Nat.reduceSub, Nat.reduceLT, List.replicate, rEq, rNe, scal]
      have hi2 : i < 112 := by omega
      have hll := lone_lt hi2
      have e0 : ((0 : Int) + (i : Int)).toNat = i := by omega
      have e1 : (lone i : Int) * 2 ^ Int.toNat 1 = ((lone i * 2 : Nat) : Int) := by
        have : (2 : Int) ^ Int.toNat 1 = 2 := by decide
        rw [this]
        omega
      by_cases c : lone i = Ql35.sum w m
      · rw [if_pos (decide_eq_true (by rw [c]))]
        refine ⟨⟨by omega, by omega, by decide⟩, ?_⟩
        have et : turnedAt w m = some i := by
          unfold turnedAt
          rw [List.find?_range_eq_some]
          exact ⟨decide_eq_true c, List.mem_range.mpr hi, fun p hp => by simpa using hall p hp⟩
        rw [et] at q
        have e2 : (1 : Int) * 2 ^ (0 + (i : Int)).toNat = ((2 ^ i : Nat) : Int) := by rw [e0, Int.one_mul, pow_cast]
        rw [e2, xor_nat]
        exact q
      · rw [if_neg (by simp; omega)]
        have hnext : ∀ p, p < i + 1 → lone p ≠ Ql35.sum w m := fun p hp => by
          rcases Nat.lt_or_ge p i with z | z
          · exact hall p z
          · have : p = i := by omega
            rw [this]
            exact c
        refine ⟨⟨by decide, by decide, ?_⟩, ?_⟩
        · have : (2 : Nat) ^ 24 = 16777216 := by decide
          have z : (lone i) < 2 ^ 200 := Nat.lt_of_lt_of_le (by rw [← this] at hll; exact hll) (Nat.pow_le_pow_right (by decide) (by decide))
          simpa using z
        · have e3 : (16777216 : Int) = ((16777216 : Nat) : Int) := rfl
          have e4 : (33551369 : Int) = ((Ql35.POLY : Nat) : Int) := by decide
          rw [e1, e3, and_nat, e4, xor_nat]
          have ls := lone_step i
          by_cases c2 : lone i * 2 &&& 16777216 = 0
          · rw [if_neg (by simp [c2])]
            rw [if_neg (by simp [c2])] at ls
            exact ⟨by rw [ls], hnext⟩
          · have c3 : ¬ ((lone i * 2 &&& 16777216 : Nat) : Int) = 0 := by omega
            rw [if_pos (by simp only [c3, decide_false, Bool.not_false])]
            rw [if_pos c2] at ls
            exact ⟨by rw [ls], hnext⟩
    · rintro σ H2 ⟨v, rfl, rfl, hall⟩
      simp only [rdA, rdB, Nat.reduceAdd, Nat.reduceSub, Nat.reduceLT, List.replicate]
      have et : turnedAt w m = none := by
        unfold turnedAt
        rw [List.find?_eq_none]
        intro p hp
        simpa using hall p (List.mem_range.mp hp)
      rw [et] at q
      exact q
/-! ### codes -/
def sp_picked (K : PySem.W.Frag) : Sp := fun vs H Q _ => ∃ (code : Nat) (a : Addr) (spots : List Nat), vs = [.int code, .ref a] ∧ SqT K H a (bts spots) ∧ spots.length ≤ 20 ∧ (∀ x ∈ spots, 1 ≤ x ∧ x ≤ 13) ∧ Q (.int (picked code spots : Nat)) H
theorem bts_get {b : List Nat} {i : Nat} {y : V} (hi : (bts b)[i]? = some y) : ∃ x, b[i]? = some x ∧ y = V.int (x : Nat) := by
  unfold bts at hi
  rw [List.getElem?_map] at hi
  cases e : b[i]? with
  | none => rw [e] at hi; cases hi
  | some x => rw [e] at hi; exact ⟨x, rfl, (Option.some.inj hi).symm⟩
theorem or_bit (n b : Nat) (h : b < 2) : Builtin.bitOr ((n : Int) * 2 ^ 1) (b : Int) = ((2 * n + b : Nat) : Int) := by
  have e8 : (2 : Int) ^ 1 = 2 := by decide
  have e := Bits.bitOr_join' (a := (b : Int)) (b := (n : Int)) (k := 1) (Int.natCast_nonneg b) (by omega) (Int.natCast_nonneg n)
  rw [e]
  omega
theorem picked_take {code : Nat} {l : List Nat} {i x : Nat} (h : l[i]? = some x) : picked code (l.take (i + 1)) = 2 * picked code (l.take i) + Ql35.bits 13 code x 1 := by
  have e : l.take (i + 1) = l.take i ++ [x] := by
    rw [List.take_add_one, h]
    rfl
  unfold picked
  rw [e, List.foldl_append]
  rfl
theorem small200 {n k : Nat} (h : n < 2 ^ k) (hk : k ≤ 200) : ((n : Nat) : Int).natAbs < 2 ^ 200 := by
  rw [Int.natAbs_natCast]
  exact Nat.lt_of_lt_of_le h (Nat.pow_le_pow_right (by decide) hk)
theorem ok_picked (T : Txt K mg A) : FnOk P w K mg base CX0 2 A.f_picked A.d_picked ["code", "spots"] (sp_picked K) := by
  refine T.fn_picked.ok sc_picked (fun vs H Q E h => ?_) (fun cdv A' outer s H vs Q E hr h => ?_)
  · obtain ⟨c, a, l, rfl, _⟩ := h
    rfl
  · obtain ⟨c, a, l, rfl, hS, hl, hb, q⟩ := h
    have nd := sc_picked.nd
    refine ⟨_, (pss_cons (ps_set (i := 2) nd rfl (Or.inl rfl) pe_int)
      (pss_cons (ps_for PassesOwn.never rfl (pi_tup (pv 1)) (pg_name (i := 3) nd rfl (Or.inl rfl)) (pss_one (ps_set (i := 2) nd rfl (Or.inl rfl) (pe_op op_or (pe_op op_shlL (pv 2) pe_int) (pe_call (ok_bits_between T) (hr.mono (by decide)) rfl T.mg_bits_between T.fn_bits_between.kp (b_bits_between T) .nil pass0 (pa_cons (pv 0) (pa_cons (pe_gI rfl T.gi_CODE_LENGTH) (pa_cons (pv 3) (pa_cons (pv 3) pa_nil)))))))))
      (pss_one (ps_ret (pv 2))))), ?_⟩
    simp only [rdA, rdB, Nat.reduceAdd, Nat.reduceSub, Nat.reduceLT, List.replicate]
    refine lp_tup a (bts l) (fun R hR => by simp only [rdA, rdB, Nat.reduceAdd, Nat.reduceSub, Nat.reduceLT, List.replicate]; exact hR) hS ?_
    refine for_tup (fun i σ H2 => ∃ v : Option V, σ = [some (.int c), some (.ref a), some (.int (picked c (l.take i) : Nat)), v] ∧ H2 = H) ⟨none, rfl, rfl⟩ (fun i σ H2 _ ⟨_, _, e⟩ => by rw [e]; exact hS) ?_ ?_
    · rintro i y σ H2 hi ⟨v, rfl, rfl⟩
      obtain ⟨x, hx, rfl⟩ := bts_get hi
      have hx2 := hb x (List.mem_of_getElem? hx)
      simp only [rdA, rdB, Nat.reduceAdd, Nat.reduceSub, Nat.reduceLT, List.replicate]
      have hp := picked_lt c (l.take i)
      have := List.length_take_le' i l
      refine ⟨⟨by decide, by decide, small200 hp (by omega)⟩, c, 13, x, x, rfl, hx2.1, Nat.le_refl _, hx2.2, by decide, ?_⟩
      simp only [rdA, rdB, Nat.reduceAdd, Nat.reduceSub, Nat.reduceLT, List.replicate]
      have e1 : x + 1 - x = 1 := by omega
      have e8 : (1 : Int).toNat = 1 := rfl
      rw [e8, e1, or_bit _ _ (bits_lt 13 c x 1), picked_take hx]
    · rintro σ H2 ⟨v, rfl, rfl⟩
      simp only [rdA, rdB, Nat.reduceAdd, Nat.reduceSub, Nat.reduceLT, List.replicate]
      have e : l.take (bts l).length = l := by unfold bts; rw [List.length_map, List.take_length]
      rw [e]
      exact q
def sp_turned_back : Sp := fun vs H Q _ => ∃ (n : Nat), vs = [.int n] ∧ n < 256 ∧ Q (.int (Ql35.gray n : Nat)) H
theorem ok_turned_back (T : Txt K mg A) : FnOk P w K mg base CX0 1 A.f_turned_back A.d_turned_back ["number"] sp_turned_back := by
  refine T.fn_turned_back.ok sc_turned_back (fun vs H Q E h => ?_) (fun cdv A' outer s H vs Q E hr h => ?_)
  · obtain ⟨n, rfl, _⟩ := h
    rfl
  · obtain ⟨n, rfl, hn, q⟩ := h
    have nd := sc_turned_back.nd
    refine ⟨_, (pss_cons (ps_set (i := 1) nd rfl (Or.inl rfl) pe_int)
      (pss_cons (ps_while PassesOwn.never (pt_cmpR op_gt (pv 0) pe_int (nomark _)) (pss_cons (ps_set (i := 1) nd rfl (Or.inl rfl) (pe_op op_xor (pv 1) (pv 0)))
      (pss_one (ps_set (i := 0) nd rfl (Or.inl rfl) (pe_op op_shr (pv 0) pe_int)))))
      (pss_one (ps_ret (pv 1))))), ?_⟩
    simp only [rdA, rdB, Nat.reduceAdd, Nat.reduceSub, Nat.reduceLT, List.replicate]
    refine while_by (fun σ H2 => ∃ (k t : Nat), σ = [some (.int k), some (.int t)] ∧ H2 = H ∧ k < 256 ∧ t ^^^ Ql35.gray k = Ql35.gray n) (fun σ _ => match σ with | some (.int k) :: _ => k.toNat | _ => 0) ⟨n, 0, rfl, rfl, hn, Nat.zero_xor _⟩ ?_ ?_
    · rintro σ H2 ⟨k, t, rfl, rfl, hk, he⟩
      simp only [rdA, rdB, Nat.reduceAdd, Nat.reduceSub, Nat.reduceLT, List.replicate]
      by_cases c : 0 < k
      · rw [if_pos (decide_eq_true (by omega))]
        have e1 : (k : Int) / 2 ^ Int.toNat 1 = ((k / 2 : Nat) : Int) := by
          have : (2 : Int) ^ Int.toNat 1 = 2 := by decide
          rw [this]
          omega
        rw [e1]
        refine ⟨by decide, ⟨k / 2, rfl, t ^^^ k, xor_nat t k, by omega, ?_⟩, by omega⟩
        rw [Nat.xor_assoc, ← gray_step hk]
        exact he
      · rw [if_neg (by simp; omega)]
        have e : k = 0 := by omega
        subst e
        have e2 : Ql35.gray 0 = 0 := by decide
        rw [e2, Nat.xor_zero] at he
        rw [he]
        exact q
    · intro σ H Q Q' hQ h
      simp only [rdA, rdB, Nat.reduceAdd, Nat.reduceSub, Nat.reduceLT, List.replicate] at h ⊢
      obtain ⟨v, h1, i, h2, h3⟩ := h
      exact ⟨v, h1, i, h2, hQ _ _ h3⟩
def sp_height_by_hundreds : Sp := fun vs H Q _ => ∃ (c : Nat), vs = [.int c] ∧ ∀ H', Same H H' → Q (optI (hundredsPy c)) H'
theorem gray3 : ∀ n, n < 8 → Ql35.gray n < 8 := by decide +kernel
theorem ok_height_by_hundreds (T : Txt K mg A) : FnOk P w K mg base CX0 3 A.f_height_by_hundreds A.d_height_by_hundreds ["code"] sp_height_by_hundreds := by
  refine T.fn_height_by_hundreds.ok sc_height_by_hundreds (fun vs H Q E h => ?_) (fun cdv A' outer s H vs Q E hr h => ?_)
  · obtain ⟨n, rfl, _⟩ := h
    rfl
  · obtain ⟨c, rfl, q⟩ := h
    have nd := sc_height_by_hundreds.nd
    refine ⟨_, (pss_cons (ps_set (i := 1) nd rfl (Or.inl rfl) (pe_call (ok_turned_back T) (hr.mono (by decide)) rfl T.mg_turned_back T.fn_turned_back.kp (b_turned_back T) .nil pass0 (pa_cons (pe_call (ok_picked T) (hr.mono (by decide)) rfl T.mg_picked T.fn_picked.kp (b_picked T) .nil pass0 (pa_cons (pv 0) (pa_cons (pe_gR rfl T.gr_FIVE_HUNDREDS_SPOTS) pa_nil))) pa_nil)))
      (pss_cons (ps_set (i := 2) nd rfl (Or.inl rfl) (pe_call (ok_turned_back T) (hr.mono (by decide)) rfl T.mg_turned_back T.fn_turned_back.kp (b_turned_back T) .nil pass0 (pa_cons (pe_call (ok_picked T) (hr.mono (by decide)) rfl T.mg_picked T.fn_picked.kp (b_picked T) .nil pass0 (pa_cons (pv 0) (pa_cons (pe_gR rfl T.gr_HUNDREDS_SPOTS) pa_nil))) pa_nil)))
      (pss_cons (ps_if (pt_cmpR op_in_seq (pv 2) (pe_tup (pa_cons pe_int (pa_cons pe_int (pa_cons pe_int pa_nil)))) rfl) (pss_one (ps_ret pe_non)) pss_nil)
      (pss_cons (ps_if (pt_cmpR op_eq (pv 2) pe_int (nomark _)) (pss_one (ps_set (i := 2) nd rfl (Or.inl rfl) pe_int)) pss_nil)
      (pss_cons (ps_if (pt_cmpR op_eq (pe_op op_mod (pv 1) pe_int) pe_int (nomark _)) (pss_one (ps_set (i := 2) nd rfl (Or.inl rfl) (pe_op op_sub pe_int (pv 2)))) pss_nil)
      (pss_one (ps_ret (pe_op op_sub (pe_op op_add (pe_op op_mul pe_int (pv 1)) (pe_op op_mul pe_int (pv 2))) pe_int)))))))), ?_⟩
    simp only [rdA, rdB, Nat.reduceAdd, Nat.reduceSub, Nat.reduceLT, List.replicate]
    refine ⟨c, _, [11, 13, 2, 4, 6, 8, 10, 12], rfl, T.sq_FIVE_HUNDREDS_SPOTS.sq H, by decide, by decide, ?_⟩
    have p1 := picked_lt c [11, 13, 2, 4, 6, 8, 10, 12]
    refine ⟨_, rfl, p1, ?_⟩
    simp only [rdA, rdB, Nat.reduceAdd, Nat.reduceSub, Nat.reduceLT, List.replicate]
    refine ⟨c, _, [1, 3, 5], rfl, T.sq_HUNDREDS_SPOTS.sq H, by decide, by decide, ?_⟩
    have p2 := picked_lt c [1, 3, 5]
    refine ⟨_, rfl, Nat.lt_trans p2 (by decide), ?_⟩
    simp only [rdA, rdB, Nat.reduceAdd, Nat.reduceSub, Nat.reduceLT, List.replicate, rEq, scal, tTup]
    refine ⟨by decide, fun p hp => rin_ints (ns := [0, 5, 6]) (SqT.of upd_same) ⟨_, rfl, ?_⟩⟩
    have sm : Same H (upd H p (HO.tup [V.int 0, V.int 5, V.int 6])) := Same.new hp
    have q' := q _ sm
    unfold hundredsPy at q'
    dsimp only at q'
    generalize Ql35.gray (picked c [11, 13, 2, 4, 6, 8, 10, 12]) = f at q' ⊢
    generalize Ql35.gray (picked c [1, 3, 5]) = g at q' ⊢
    have e0 : (((g : Nat) : Int) ∈ ([0, 5, 6] : List Int)) ↔ (g = 0 ∨ g = 5 ∨ g = 6) := by
      simp only [List.mem_cons, List.not_mem_nil, or_false]
      omega
    by_cases c0 : g = 0 ∨ g = 5 ∨ g = 6
    · rw [if_pos c0] at q'
      rw [if_pos (by simpa [e0] using c0)]
      exact q'
    · rw [if_neg c0] at q'
      rw [if_neg (by simpa [e0] using c0)]
      have m500 : ∀ z : Int, CMul 500 z := fun z => .inl ⟨by decide, by decide⟩
      have m100 : ∀ z : Int, CMul 100 z := fun z => .inl ⟨by decide, by decide⟩
      have e7 : decide (((g : Nat) : Int) = 7) = decide (g = 7) := decide_eq_decide.mpr (by omega)
      have e2 : decide (((f : Nat) : Int) % 2 = 1) = decide (f % 2 = 1) := decide_eq_decide.mpr (by omega)
      rw [e7, e2]
      by_cases c7 : g = 7 <;> by_cases c2 : f % 2 = 1 <;> simp [c7, c2, m500, m100] at q' ⊢ <;> exact q'
def sp_height_of : Sp := fun vs H Q _ => ∃ (c : Nat), vs = [.int c] ∧ c < 8192 ∧ ∀ H', Same H H' → Q (optI (Ql35.height13 c)) H'
theorem ok_height_of (T : Txt K mg A) : FnOk P w K mg base CX0 4 A.f_height_of A.d_height_of ["code"] sp_height_of := by
  refine T.fn_height_of.ok sc_height_of (fun vs H Q E h => ?_) (fun cdv A' outer s H vs Q E hr h => ?_)
  · obtain ⟨n, rfl, _⟩ := h
    rfl
  · obtain ⟨c, rfl, hc, q⟩ := h
    have nd := sc_height_of.nd
    refine ⟨_, (pss_cons (ps_if (PW.pt (pw_or (pt_cmpR op_eq (pv 0) pe_int (nomark _)) (pw_or1 (pt_cmpR op_eq (pe_call (ok_picked T) (hr.mono (by decide)) rfl T.mg_picked T.fn_picked.kp (b_picked T) .nil pass0 (pa_cons (pv 0) (pa_cons (pe_gR rfl T.gr_M_SPOT) pa_nil))) pe_int (nomark _))))) (pss_one (ps_ret pe_non)) pss_nil)
      (pss_cons (ps_if (pt_cmpR op_eq (pe_call (ok_picked T) (hr.mono (by decide)) rfl T.mg_picked T.fn_picked.kp (b_picked T) .nil pass0 (pa_cons (pv 0) (pa_cons (pe_gR rfl T.gr_Q_SPOT) pa_nil))) pe_int (nomark _)) (pss_one (ps_ret (pe_op op_sub (pe_op op_mul (pe_call (ok_picked T) (hr.mono (by decide)) rfl T.mg_picked T.fn_picked.kp (b_picked T) .nil pass0 (pa_cons (pv 0) (pa_cons (pe_gR rfl T.gr_PLAIN_SPOTS) pa_nil))) pe_int) pe_int))) pss_nil)
      (pss_one (ps_ret (pe_call (ok_height_by_hundreds T) (hr.mono (by decide)) rfl T.mg_height_by_hundreds T.fn_height_by_hundreds.kp (b_height_by_hundreds T) .nil pass0 (pa_cons (pv 0) pa_nil)))))), ?_⟩
    simp only [rdA, rdB, Nat.reduceAdd, Nat.reduceSub, Nat.reduceLT, List.replicate, rEq, scal]
    rw [← height_eq hc] at q
    unfold heightPy at q
    by_cases c0 : c = 0
    · rw [if_pos (decide_eq_true (by omega))]
      rw [if_pos (.inl c0)] at q
      exact q H (Same.refl H)
    · rw [if_neg (by simp; omega)]
      refine ⟨c, _, [7], rfl, T.sq_M_SPOT.sq H, by decide, by decide, ?_⟩
      simp only [rdA, rdB, Nat.reduceAdd, Nat.reduceSub, Nat.reduceLT, List.replicate, rEq, scal]
      have e1 : decide (((picked c [7] : Nat) : Int) = 1) = decide (picked c [7] = 1) := decide_eq_decide.mpr (by omega)
      rw [e1]
      by_cases c1 : picked c [7] = 1
      · rw [if_pos (decide_eq_true c1)]
        rw [if_pos (.inr c1)] at q
        exact q H (Same.refl H)
      · rw [if_neg (by simpa using c1)]
        rw [if_neg (by omega)] at q
        refine ⟨c, _, [9], rfl, T.sq_Q_SPOT.sq H, by decide, by decide, ?_⟩
        simp only [rdA, rdB, Nat.reduceAdd, Nat.reduceSub, Nat.reduceLT, List.replicate, rEq, scal]
        have e2 : decide (((picked c [9] : Nat) : Int) = 1) = decide (picked c [9] = 1) := decide_eq_decide.mpr (by omega)
        rw [e2]
        by_cases c2 : picked c [9] = 1
        · rw [if_pos (decide_eq_true c2)]
          rw [if_pos c2] at q
          refine ⟨c, _, [1, 2, 3, 4, 5, 6, 8, 10, 11, 12, 13], rfl, T.sq_PLAIN_SPOTS.sq H, by decide, by decide, ?_⟩
          simp only [rdA, rdB, Nat.reduceAdd, Nat.reduceSub, Nat.reduceLT, List.replicate]
          exact ⟨.inr ⟨by decide, by decide⟩, q H (Same.refl H)⟩
        · rw [if_neg (by simpa using c2)]
          rw [if_neg c2] at q
          exact ⟨c, rfl, q⟩
def sp_identity_of : Sp := fun vs H Q _ => ∃ (c : Nat), vs = [.int c] ∧ c < 8192 ∧ Q (.int (Ql35.identity c : Nat)) H
theorem ok_identity_of (T : Txt K mg A) : FnOk P w K mg base CX0 3 A.f_identity_of A.d_identity_of ["code"] sp_identity_of := by
  refine T.fn_identity_of.ok sc_identity_of (fun vs H Q E h => ?_) (fun cdv A' outer s H vs Q E hr h => ?_)
  · obtain ⟨n, rfl, _⟩ := h
    rfl
  · obtain ⟨c, rfl, hc, q⟩ := h
    have nd := sc_identity_of.nd
    refine ⟨_, (pss_cons (ps_set (i := 1) nd rfl (Or.inl rfl) (pe_op op_add (pe_op op_mul pe_int (pe_call (ok_picked T) (hr.mono (by decide)) rfl T.mg_picked T.fn_picked.kp (b_picked T) .nil pass0 (pa_cons (pv 0) (pa_cons (pe_gR rfl T.gr_A_SPOTS) pa_nil)))) (pe_op op_mul pe_int (pe_call (ok_picked T) (hr.mono (by decide)) rfl T.mg_picked T.fn_picked.kp (b_picked T) .nil pass0 (pa_cons (pv 0) (pa_cons (pe_gR rfl T.gr_B_SPOTS) pa_nil))))))
      (pss_one (ps_ret (pe_op op_add (pe_op op_add (pv 1) (pe_op op_mul pe_int (pe_call (ok_picked T) (hr.mono (by decide)) rfl T.mg_picked T.fn_picked.kp (b_picked T) .nil pass0 (pa_cons (pv 0) (pa_cons (pe_gR rfl T.gr_C_SPOTS) pa_nil))))) (pe_call (ok_picked T) (hr.mono (by decide)) rfl T.mg_picked T.fn_picked.kp (b_picked T) .nil pass0 (pa_cons (pv 0) (pa_cons (pe_gR rfl T.gr_D_SPOTS) pa_nil))))))), ?_⟩
    simp only [rdA, rdB, Nat.reduceAdd, Nat.reduceSub, Nat.reduceLT, List.replicate]
    have m : ∀ z y : Int, (z = 1000 ∨ z = 100 ∨ z = 10) → CMul z y := fun z y h => .inl (by
      have e : (2 : Int) ^ 64 = 18446744073709551616 := by decide
      rw [e]
      omega)
    refine ⟨c, _, [6, 4, 2], rfl, T.sq_A_SPOTS.sq H, by decide, by decide, ?_⟩
    simp only [rdA, rdB, Nat.reduceAdd, Nat.reduceSub, Nat.reduceLT, List.replicate]
    refine ⟨m _ _ (by decide), c, _, [12, 10, 8], rfl, T.sq_B_SPOTS.sq H, by decide, by decide, ?_⟩
    simp only [rdA, rdB, Nat.reduceAdd, Nat.reduceSub, Nat.reduceLT, List.replicate]
    refine ⟨m _ _ (by decide), c, _, [5, 3, 1], rfl, T.sq_C_SPOTS.sq H, by decide, by decide, ?_⟩
    simp only [rdA, rdB, Nat.reduceAdd, Nat.reduceSub, Nat.reduceLT, List.replicate]
    refine ⟨m _ _ (by decide), c, _, [13, 11, 9], rfl, T.sq_D_SPOTS.sq H, by decide, by decide, ?_⟩
    simp only [rdA, rdB, Nat.reduceAdd, Nat.reduceSub, Nat.reduceLT, List.replicate]
    rw [← identity_eq hc] at q
    have e : ((identityPy c : Nat) : Int) = 1000 * ((picked c [6, 4, 2] : Nat) : Int) + 100 * ((picked c [12, 10, 8] : Nat) : Int) + (10 * ((picked c [5, 3, 1] : Nat) : Int)) + ((picked c [13, 11, 9] : Nat) : Int) := by
      unfold identityPy
      omega
    rw [e] at q
    exact q
end
end Ph

namespace Ph
open PySem L2
section
variable {P : Program} {w : World} {K : PySem.W.Frag} {mg : Str → Option Value} {base : Heap} {A : Ad}
/-! ### extended messages -/
def sp_bits_in : Sp := fun vs H Q _ => ∃ (m a l : Nat), vs = [.int m, .int a, .int l] ∧ 1 ≤ a ∧ a ≤ l ∧ l ≤ 56 ∧ Q (.int (Ql35.bits 56 m a (l + 1 - a) : Nat)) H
theorem ok_bits_in (T : Txt K mg A) : FnOk P w K mg base CX0 2 A.f_bits_in A.d_bits_in ["extended", "first", "last"] sp_bits_in := by
  refine T.fn_bits_in.ok sc_bits_in (fun vs H Q E h => ?_) (fun cdv A' outer s H vs Q E hr h => ?_)
  · obtain ⟨m, a, l, rfl, _⟩ := h
    rfl
  · obtain ⟨m, a, l, rfl, h1, h2, h3, q⟩ := h
    have nd := sc_bits_in.nd
    refine ⟨_, (pss_one (ps_ret (pe_call (ok_bits_between T) (hr.mono (by decide)) rfl T.mg_bits_between T.fn_bits_between.kp (b_bits_between T) .nil pass0 (pa_cons (pv 0) (pa_cons (pe_gI rfl T.gi_EXTENDED_LENGTH) (pa_cons (pv 1) (pa_cons (pv 2) pa_nil))))))), ?_⟩
    simp only [rdA, rdB, Nat.reduceAdd, Nat.reduceSub, Nat.reduceLT, List.replicate]
    exact ⟨m, 56, a, l, rfl, h1, h2, h3, by decide, q⟩
def sp_kind_of : Sp := fun vs H Q _ => ∃ (m : Nat), vs = [.int m] ∧ Q (.int (kindOf m : Nat)) H
theorem ok_kind_of (T : Txt K mg A) : FnOk P w K mg base CX0 3 A.f_kind_of A.d_kind_of ["extended"] sp_kind_of := by
  refine T.fn_kind_of.ok sc_kind_of (fun vs H Q E h => ?_) (fun cdv A' outer s H vs Q E hr h => ?_)
  · obtain ⟨m, rfl, _⟩ := h
    rfl
  · obtain ⟨m, rfl, q⟩ := h
    have nd := sc_kind_of.nd
    refine ⟨_, (pss_one (ps_ret (pe_call (ok_bits_in T) (hr.mono (by decide)) rfl T.mg_bits_in T.fn_bits_in.kp (b_bits_in T) .nil pass0 (pa_cons (pv 0) (pa_cons pe_int (pa_cons pe_int pa_nil)))))), ?_⟩
    simp only [rdA, rdB, Nat.reduceAdd, Nat.reduceSub, Nat.reduceLT, List.replicate]
    exact ⟨m, 1, 5, rfl, by decide, by decide, by decide, q⟩
def sp_name_byte : Sp := fun vs H Q _ => ∃ (n : Nat), vs = [.int n] ∧ Q (optN (Ql35.letter n)) H
theorem ok_name_byte (T : Txt K mg A) : FnOk P w K mg base CX0 1 A.f_name_byte A.d_name_byte ["sign"] sp_name_byte := by
  refine T.fn_name_byte.ok sc_name_byte (fun vs H Q E h => ?_) (fun cdv A' outer s H vs Q E hr h => ?_)
  · obtain ⟨m, rfl, _⟩ := h
    rfl
  · obtain ⟨n, rfl, q⟩ := h
    have nd := sc_name_byte.nd
    refine ⟨_, (pss_cons (ps_if (pt_chain op_le op_le pe_int (pv 0) pe_int) (pss_one (ps_ret (pe_op op_sub (pe_op op_add (pe_callB call_ord (by rfl) T.nb_ord bt_ord (pa_cons pe_str pa_nil)) (pv 0)) pe_int))) pss_nil)
      (pss_cons (ps_if (PW.pt (pw_or (pt_cmpR op_eq (pv 0) pe_int (nomark _)) (pw_or1 (pt_chain op_le op_le pe_int (pv 0) pe_int)))) (pss_one (ps_ret (pv 0))) pss_nil)
      (pss_one (ps_ret pe_non)))), ?_⟩
    simp only [rdA, rdB, Nat.reduceAdd, Nat.reduceSub, Nat.reduceLT, List.replicate, rEq, scal, tChain]
    unfold Ql35.letter at q
    by_cases c1 : 1 ≤ n
    · rw [if_pos (decide_eq_true (by omega))]
      by_cases c2 : n ≤ 26
      · rw [if_pos (decide_eq_true (by omega))]
        rw [if_pos ⟨c1, c2⟩] at q
        refine ⟨_, rfl, by decide +kernel, ?_⟩
        have e : ((Str.ofString "A").cps.getD 0 0 : Nat) = 65 := by decide +kernel
        rw [e]
        have e2 : ((65 : Nat) : Int) + (n : Int) - 1 = ((64 + n : Nat) : Int) := by omega
        rw [e2]
        exact q
      · rw [if_neg (by simp; omega)]
        rw [if_neg (by omega)] at q
        by_cases c3 : n = 32
        · rw [if_pos (decide_eq_true (by omega)), if_pos trivial]
          rw [if_pos c3, ← c3] at q
          exact q
        · rw [if_neg (by simp; omega)]
          rw [if_neg c3] at q
          by_cases c4 : 48 ≤ n
          · rw [if_pos (decide_eq_true (by omega))]
            by_cases c5 : n ≤ 57
            · rw [if_pos (decide_eq_true (by omega))]
              rw [if_pos ⟨c4, c5⟩] at q
              exact q
            · rw [if_neg (by simp; omega)]
              rw [if_neg (by omega)] at q
              exact q
          · rw [if_neg (by simp; omega), if_neg (by decide)]
            rw [if_neg (by omega)] at q
            exact q
    · rw [if_neg (by simp; omega), if_neg (by decide)]
      have e : n = 0 := by omega
      subst e
      exact q
def sp_signed : Sp := fun vs H Q _ => ∃ (z : Int) (s : Nat), vs = [.int z, .int s] ∧ Q (.int (sgn s z)) H
theorem ok_signed (T : Txt K mg A) : FnOk P w K mg base CX0 1 A.f_signed A.d_signed ["size", "negative"] sp_signed := by
  refine T.fn_signed.ok sc_signed (fun vs H Q E h => ?_) (fun cdv A' outer s H vs Q E hr h => ?_)
  · obtain ⟨m, s, rfl, _⟩ := h
    rfl
  · obtain ⟨z, s, rfl, q⟩ := h
    have nd := sc_signed.nd
    refine ⟨_, (pss_one (ps_ret (pe_ifExp (pt_cmpR op_eq (pv 1) pe_int (nomark _)) (pe_un un_neg (pv 0)) (pv 0)))), ?_⟩
    simp only [rdA, rdB, Nat.reduceAdd, Nat.reduceSub, Nat.reduceLT, List.replicate, rEq, scal]
    unfold sgn at q
    by_cases c : s = 1
    · rw [if_pos (decide_eq_true (by omega))]
      rw [if_pos c] at q
      exact q
    · rw [if_neg (by simp; omega)]
      rw [if_neg c] at q
      exact q
def sp_height_in : Sp := fun vs H Q _ => ∃ (m : Nat), vs = [.int m] ∧ ∀ H', Same H H' → Q (optI (heightOf m)) H'
theorem ok_height_in (T : Txt K mg A) : FnOk P w K mg base CX0 5 A.f_height_in A.d_height_in ["extended"] sp_height_in := by
  refine T.fn_height_in.ok sc_height_in (fun vs H Q E h => ?_) (fun cdv A' outer s H vs Q E hr h => ?_)
  · obtain ⟨m, rfl, _⟩ := h
    rfl
  · obtain ⟨m, rfl, q⟩ := h
    have nd := sc_height_in.nd
    refine ⟨_, (pss_cons (ps_if (pt_cmpR op_notIn_seq (pe_call (ok_kind_of T) (hr.mono (by decide)) rfl T.mg_kind_of T.fn_kind_of.kp (b_kind_of T) .nil pass0 (pa_cons (pv 0) pa_nil)) (pe_gR rfl T.gr_HEIGHT_KINDS) rfl) (pss_one (ps_ret pe_non)) pss_nil)
      (pss_one (ps_ret (pe_call (ok_height_of T) (hr.mono (by decide)) rfl T.mg_height_of T.fn_height_of.kp (b_height_of T) .nil pass0 (pa_cons (pe_op op_or (pe_op op_shlL (pe_call (ok_bits_in T) (hr.mono (by decide)) rfl T.mg_bits_in T.fn_bits_in.kp (b_bits_in T) .nil pass0 (pa_cons (pv 0) (pa_cons pe_int (pa_cons pe_int pa_nil)))) pe_int) (pe_call (ok_bits_in T) (hr.mono (by decide)) rfl T.mg_bits_in T.fn_bits_in.kp (b_bits_in T) .nil pass0 (pa_cons (pv 0) (pa_cons pe_int (pa_cons pe_int pa_nil))))) pa_nil))))), ?_⟩
    simp only [rdA, rdB, Nat.reduceAdd, Nat.reduceSub, Nat.reduceLT, List.replicate]
    refine ⟨m, rfl, rin_ints (T.sq_HEIGHT_KINDS.sq H) ⟨_, rfl, ?_⟩⟩
    rw [if_pos rfl]
    have em : (((kindOf m : Nat) : Int) ∈ ([9, 10, 11, 12, 13, 14, 15, 16, 17, 18] : List Int)) ↔ (9 ≤ kindOf m ∧ kindOf m ≤ 18) := by
      simp only [List.mem_cons, List.not_mem_nil, or_false]
      omega
    unfold heightOf at q
    by_cases c : 9 ≤ kindOf m ∧ kindOf m ≤ 18
    · rw [if_neg (by simp only [em, c, and_self, decide_true, Bool.not_true]; decide)]
      rw [if_pos c] at q
      refine ⟨m, 9, 14, rfl, by decide, by decide, by decide, ?_⟩
      simp only [rdA, rdB, Nat.reduceAdd, Nat.reduceSub, Nat.reduceLT, List.replicate]
      have b6 := bits_lt 56 m 9 6
      have b6' := bits_lt 56 m 15 6
      refine ⟨⟨by decide, by decide, small200 b6 (by decide)⟩, m, 15, 20, rfl, by decide, by decide, by decide, ?_⟩
      simp only [rdA, rdB, Nat.reduceAdd, Nat.reduceSub, Nat.reduceLT, List.replicate]
      have e1 : Builtin.bitOr (((Ql35.bits 56 m 9 6 : Nat) : Int) * 2 ^ Int.toNat 7) ((Ql35.bits 56 m 15 6 : Nat) : Int) = ((Ql35.bits 56 m 9 12 / 64 * 128 + Ql35.bits 56 m 9 12 % 64 : Nat) : Int) := by
        have e7 : (2 : Int) ^ Int.toNat 7 = 128 := by decide
        have e7' : (2 : Int) ^ 7 = 128 := by decide
        have e := Bits.bitOr_join' (a := ((Ql35.bits 56 m 15 6 : Nat) : Int)) (b := ((Ql35.bits 56 m 9 6 : Nat) : Int)) (k := 7) (Int.natCast_nonneg _) (by omega) (Int.natCast_nonneg _)
        have e' : Int.toNat 7 = 7 := rfl
        rw [e', e]
        unfold Ql35.bits at *
        omega
      have e2 : Ql35.bits 56 m 9 12 < 4096 := bits_lt 56 m 9 12
      exact ⟨_, by rw [e1], by omega, q⟩
    · rw [if_pos (by simp only [em, c, decide_false, Bool.not_false])]
      rw [if_neg c] at q
      exact q H (Same.refl H)
def sp_speed_step_in : Sp := fun vs H Q _ => ∃ (m : Nat), vs = [.int m] ∧ Q (if stepOf m = 0 then .non else .int (stepOf m : Nat)) H
theorem ok_speed_step_in (T : Txt K mg A) : FnOk P w K mg base CX0 4 A.f_speed_step_in A.d_speed_step_in ["extended"] sp_speed_step_in := by
  refine T.fn_speed_step_in.ok sc_speed_step_in (fun vs H Q E h => ?_) (fun cdv A' outer s H vs Q E hr h => ?_)
  · obtain ⟨m, rfl, _⟩ := h
    rfl
  · obtain ⟨m, rfl, q⟩ := h
    have nd := sc_speed_step_in.nd
    refine ⟨_, (pss_cons (ps_if (pt_cmpR op_ne (pe_call (ok_kind_of T) (hr.mono (by decide)) rfl T.mg_kind_of T.fn_kind_of.kp (b_kind_of T) .nil pass0 (pa_cons (pv 0) pa_nil)) (pe_gI rfl T.gi_SPEED_KIND) (nomark _)) (pss_one (ps_ret pe_non)) pss_nil)
      (pss_one (ps_ret (pe_kget (hu_of hr) rfl T.gr_SPEED_STEPS T.dk_SPEED_STEPS (pe_call (ok_bits_in T) (hr.mono (by decide)) rfl T.mg_bits_in T.fn_bits_in.kp (b_bits_in T) .nil pass0 (pa_cons (pv 0) (pa_cons pe_int (pa_cons pe_int pa_nil)))) ⟨rfl, rfl, rfl, rfl⟩)))), ?_⟩
    simp only [rdA, rdB, Nat.reduceAdd, Nat.reduceSub, Nat.reduceLT, List.replicate, rNe, scal, tKGet]
    refine ⟨m, rfl, ?_⟩
    simp only [rdA, rdB, Nat.reduceAdd, Nat.reduceSub, Nat.reduceLT, List.replicate, rNe, scal, tKGet]
    unfold stepOf at q
    by_cases c : kindOf m = 19
    · rw [if_neg (by simp [c])]
      simp only [if_pos c] at q
      refine ⟨m, 6, 8, rfl, by decide, by decide, by decide, ?_⟩
      simp only [rdA, rdB, Nat.reduceAdd, Nat.reduceSub, Nat.reduceLT, List.replicate]
      generalize Ql35.bits 56 m 6 3 = b at q ⊢
      have hl : optI (lookI [(1, 1), (2, 4)] ((b : Nat) : Int)) = (if (if b = 1 then 1 else if b = 2 then 4 else 0 : Nat) = 0 then V.non else V.int ((if b = 1 then 1 else if b = 2 then 4 else 0 : Nat) : Nat)) := by
        by_cases c1 : b = 1
        · subst c1; decide
        · by_cases c2 : b = 2
          · subst c2; decide
          · have n1 : ¬ (1 : Int) = (b : Int) := by omega
            have n2 : ¬ (2 : Int) = (b : Int) := by omega
            unfold lookI
            rw [List.find?_cons, decide_eq_false n1, List.find?_cons, decide_eq_false n2, if_neg c1, if_neg c2]
            rfl
      rw [hl]
      exact q
    · rw [if_pos (by simp; omega)]
      simp only [if_neg c, if_true] at q
      exact q
def sp_speeds_in (K : PySem.W.Frag) : Sp := fun vs H Q _ => ∃ (m : Nat), vs = [.int m] ∧ (speedOf m = none → Q .non H) ∧ ∀ e n, speedOf m = some (e, n) → ∀ p H', Same H H' → H' p = some (.tup [.int e, .int n]) → Q (.ref p) H'
theorem ok_speeds_in (T : Txt K mg A) : FnOk P w K mg base CX0 5 A.f_speeds_in A.d_speeds_in ["extended"] (sp_speeds_in K) := by
  refine T.fn_speeds_in.ok sc_speeds_in (fun vs H Q E h => ?_) (fun cdv A' outer s H vs Q E hr h => ?_)
  · obtain ⟨m, rfl, _⟩ := h
    rfl
  · obtain ⟨m, rfl, q0, q⟩ := h
    have nd := sc_speeds_in.nd
    refine ⟨_, (pss_cons (ps_set (i := 1) nd rfl (Or.inl rfl) (pe_call (ok_speed_step_in T) (hr.mono (by decide)) rfl T.mg_speed_step_in T.fn_speed_step_in.kp (b_speed_step_in T) .nil pass0 (pa_cons (pv 0) pa_nil)))
      (pss_cons (ps_set (i := 2) nd rfl (Or.inl rfl) (pe_call (ok_bits_in T) (hr.mono (by decide)) rfl T.mg_bits_in T.fn_bits_in.kp (b_bits_in T) .nil pass0 (pa_cons (pv 0) (pa_cons pe_int (pa_cons pe_int pa_nil)))))
      (pss_cons (ps_set (i := 3) nd rfl (Or.inl rfl) (pe_call (ok_bits_in T) (hr.mono (by decide)) rfl T.mg_bits_in T.fn_bits_in.kp (b_bits_in T) .nil pass0 (pa_cons (pv 0) (pa_cons pe_int (pa_cons pe_int pa_nil)))))
      (pss_cons (ps_if (PW.pt (pw_or (pt_cmpR op_isN (pv 1) pe_non (nomark _)) (pw_or (pt_cmpR op_eq (pv 2) pe_int (nomark _)) (pw_or1 (pt_cmpR op_eq (pv 3) pe_int (nomark _)))))) (pss_one (ps_ret pe_non)) pss_nil)
      (pss_cons (ps_set (i := 4) nd rfl (Or.inl rfl) (pe_call (ok_signed T) (hr.mono (by decide)) rfl T.mg_signed T.fn_signed.kp (b_signed T) .nil pass0 (pa_cons (pe_op op_mul (pe_op op_sub (pv 2) pe_int) (pv 1)) (pa_cons (pe_call (ok_bits_in T) (hr.mono (by decide)) rfl T.mg_bits_in T.fn_bits_in.kp (b_bits_in T) .nil pass0 (pa_cons (pv 0) (pa_cons pe_int (pa_cons pe_int pa_nil)))) pa_nil))))
      (pss_one (ps_ret (pe_tup (pa_cons (pv 4) (pa_cons (pe_call (ok_signed T) (hr.mono (by decide)) rfl T.mg_signed T.fn_signed.kp (b_signed T) .nil pass0 (pa_cons (pe_op op_mul (pe_op op_sub (pv 3) pe_int) (pv 1)) (pa_cons (pe_call (ok_bits_in T) (hr.mono (by decide)) rfl T.mg_bits_in T.fn_bits_in.kp (b_bits_in T) .nil pass0 (pa_cons (pv 0) (pa_cons pe_int (pa_cons pe_int pa_nil)))) pa_nil))) pa_nil)))))))))), ?_⟩
    simp only [rdA, rdB, Nat.reduceAdd, Nat.reduceSub, Nat.reduceLT, List.replicate, rEq, scal, tTup]
    refine ⟨m, rfl, m, 15, 24, rfl, by decide, by decide, by decide, m, 26, 35, rfl, by decide, by decide, by decide, ?_⟩
    simp only [rdA, rdB, Nat.reduceAdd, Nat.reduceSub, Nat.reduceLT, List.replicate, rEq, scal, tTup]
    unfold speedOf at q0 q
    by_cases c0 : stepOf m = 0
    · rw [if_pos c0] at ⊢
      rw [if_pos (decide_eq_true rfl), if_pos trivial]
      exact q0 (if_pos (.inl c0))
    · simp only [if_neg c0]
      rw [if_neg (by simp)]
      by_cases c1 : Ql35.bits 56 m 15 10 = 0
      · rw [if_pos (decide_eq_true (by omega)), if_pos trivial]
        exact q0 (if_pos (.inr (.inl c1)))
      · rw [if_neg (by simp; omega)]
        by_cases c2 : Ql35.bits 56 m 26 10 = 0
        · rw [if_pos (decide_eq_true (by omega))]
          exact q0 (if_pos (.inr (.inr c2)))
        · rw [if_neg (by simp; omega)]
          rw [if_neg (by omega)] at q
          have b1 := bits_lt 56 m 15 10
          have b2 := bits_lt 56 m 26 10
          have e64 : (2 : Int) ^ 64 = 18446744073709551616 := by decide
          have e10 : (2 : Nat) ^ 10 = 1024 := by decide
          refine ⟨_, rfl, .inl (by omega), m, 14, 14, rfl, by decide, by decide, by decide, _, _, rfl, ?_⟩
          refine ⟨_, rfl, .inl (by omega), m, 25, 25, rfl, by decide, by decide, by decide, _, _, rfl, by decide, fun p hp => ?_⟩
          exact q _ _ rfl p _ (Same.new hp) upd_same
def sp_climb_in : Sp := fun vs H Q _ => ∃ (m : Nat), vs = [.int m] ∧ Q (optI (climbOf m)) H
theorem ok_climb_in (T : Txt K mg A) : FnOk P w K mg base CX0 5 A.f_climb_in A.d_climb_in ["extended"] sp_climb_in := by
  refine T.fn_climb_in.ok sc_climb_in (fun vs H Q E h => ?_) (fun cdv A' outer s H vs Q E hr h => ?_)
  · obtain ⟨m, rfl, _⟩ := h
    rfl
  · obtain ⟨m, rfl, q⟩ := h
    have nd := sc_climb_in.nd
    refine ⟨_, (pss_cons (ps_set (i := 1) nd rfl (Or.inl rfl) (pe_call (ok_bits_in T) (hr.mono (by decide)) rfl T.mg_bits_in T.fn_bits_in.kp (b_bits_in T) .nil pass0 (pa_cons (pv 0) (pa_cons pe_int (pa_cons pe_int pa_nil)))))
      (pss_cons (ps_if (PW.pt (pw_or (pt_cmpR op_isN (pe_call (ok_speed_step_in T) (hr.mono (by decide)) rfl T.mg_speed_step_in T.fn_speed_step_in.kp (b_speed_step_in T) .nil pass0 (pa_cons (pv 0) pa_nil)) pe_non (nomark _)) (pw_or1 (pt_cmpR op_eq (pv 1) pe_int (nomark _))))) (pss_one (ps_ret pe_non)) pss_nil)
      (pss_one (ps_ret (pe_call (ok_signed T) (hr.mono (by decide)) rfl T.mg_signed T.fn_signed.kp (b_signed T) .nil pass0 (pa_cons (pe_op op_mul (pe_op op_sub (pv 1) pe_int) (pe_gI rfl T.gi_CLIMB_STEP)) (pa_cons (pe_call (ok_bits_in T) (hr.mono (by decide)) rfl T.mg_bits_in T.fn_bits_in.kp (b_bits_in T) .nil pass0 (pa_cons (pv 0) (pa_cons pe_int (pa_cons pe_int pa_nil)))) pa_nil))))))), ?_⟩
    simp only [rdA, rdB, Nat.reduceAdd, Nat.reduceSub, Nat.reduceLT, List.replicate]
    refine ⟨m, 38, 46, rfl, by decide, by decide, by decide, ?_⟩
    simp only [rdA, rdB, Nat.reduceAdd, Nat.reduceSub, Nat.reduceLT, List.replicate, rEq, scal, tTup]
    refine ⟨m, rfl, ?_⟩
    simp only [rdA, rdB, Nat.reduceAdd, Nat.reduceSub, Nat.reduceLT, List.replicate, rEq, scal, tTup]
    unfold climbOf at q
    by_cases c0 : stepOf m = 0
    · rw [if_pos c0, if_pos (decide_eq_true rfl), if_pos trivial]
      rw [if_pos (.inl c0)] at q
      exact q
    · simp only [if_neg c0]
      rw [if_neg (by simp)]
      by_cases c1 : Ql35.bits 56 m 38 9 = 0
      · rw [if_pos (decide_eq_true (by omega))]
        rw [if_pos (.inr c1)] at q
        exact q
      · rw [if_neg (by simp; omega)]
        rw [if_neg (by omega)] at q
        exact ⟨.inr ⟨by decide, by decide⟩, m, 37, 37, rfl, by decide, by decide, by decide, _, _, rfl, q⟩
/-- a name: none, or a new list of its eight bytes -/
def NameAt (H : Hp) : V → Option (List Nat) → Prop
  | v, none => v = .non
  | v, some l => ∃ a, v = .ref a ∧ H a = some (.lst (bts l)) ∧ l.length = 8
theorem mapM_step (f : Nat → Option Nat) (i : Nat) : (List.range (i + 1)).mapM f = match (List.range i).mapM f with
    | none => none
    | some l => match f i with
      | none => none
      | some x => some (l ++ [x]) := by
  rw [List.range_succ, List.mapM_append]
  cases (List.range i).mapM f with
  | none => rfl
  | some l =>
    cases h : f i with
    | none => simp [h]
    | some x => simp [h]
theorem mapM_none (f : Nat → Option Nat) {i : Nat} (h : (List.range i).mapM f = none) : ∀ n, i ≤ n → (List.range n).mapM f = none
  | 0, hn => by
    have e : i = 0 := by omega
    subst e
    exact h
  | n + 1, hn => by
    by_cases e : i = n + 1
    · rw [← e]; exact h
    · rw [mapM_step, mapM_none f h n (by omega)]
theorem bts_append (l : List Nat) (x : Nat) : bts (l ++ [x]) = bts l ++ [V.int (x : Nat)] := by
  unfold bts
  rw [List.map_append]
  rfl
def nameCh (m i : Nat) : Option Nat := Ql35.letter (Ql35.bits 56 m (9 + 6 * i) 6)
def sp_name_in : Sp := fun vs H Q _ => ∃ (m : Nat), vs = [.int m] ∧ ∀ v H', Same H H' → NameAt H' v (nameOf m) → Q v H'
theorem ok_name_in (T : Txt K mg A) : FnOk P w K mg base CX0 4 A.f_name_in A.d_name_in ["extended"] sp_name_in := by
  refine T.fn_name_in.ok sc_name_in (fun vs H Q E h => ?_) (fun cdv A' outer s H vs Q E hr h => ?_)
  · obtain ⟨m, rfl, _⟩ := h
    rfl
  · obtain ⟨m, rfl, q⟩ := h
    have nd := sc_name_in.nd
    refine ⟨_, (pss_cons (ps_if (pt_cmpR op_notIn_seq (pe_call (ok_kind_of T) (hr.mono (by decide)) rfl T.mg_kind_of T.fn_kind_of.kp (b_kind_of T) .nil pass0 (pa_cons (pv 0) pa_nil)) (pe_gR rfl T.gr_NAME_KINDS) rfl) (pss_one (ps_ret pe_non)) pss_nil)
      (pss_cons (ps_set (i := 1) nd rfl (Or.inl rfl) (pe_lst pa_nil))
      (pss_cons (ps_for PassesOwn.never rfl (pi_range1 rfl T.nb_range (pa_cons (pe_gI rfl T.gi_NAME_LENGTH) pa_nil)) (pg_name (i := 2) nd rfl (Or.inl rfl)) (pss_cons (ps_set (i := 3) nd rfl (Or.inl rfl) (pe_op op_add pe_int (pe_op op_mul pe_int (pv 2))))
      (pss_cons (ps_set (i := 4) nd rfl (Or.inl rfl) (pe_call (ok_name_byte T) (hr.mono (by decide)) rfl T.mg_name_byte T.fn_name_byte.kp (b_name_byte T) .nil pass0 (pa_cons (pe_call (ok_bits_in T) (hr.mono (by decide)) rfl T.mg_bits_in T.fn_bits_in.kp (b_bits_in T) .nil pass0 (pa_cons (pv 0) (pa_cons (pv 3) (pa_cons (pe_op op_add (pv 3) pe_int) pa_nil)))) pa_nil)))
      (pss_cons (ps_if (pt_cmpR op_isN (pv 4) pe_non (nomark _)) (pss_one (ps_ret pe_non)) pss_nil)
      (pss_one (ps_expr (pe_bm PySem.F.plainAttrs_list PySem.F.slot_list_append PySem.F.type_list_append mt_append (pv 1) (pa_cons (pv 4) pa_nil))))))))
      (pss_one (ps_ret (pv 1)))))), ?_⟩
    simp only [rdA, rdB, Nat.reduceAdd, Nat.reduceSub, Nat.reduceLT, List.replicate, tLst]
    refine ⟨m, rfl, rin_ints (T.sq_NAME_KINDS.sq H) ⟨_, rfl, ?_⟩⟩
    rw [if_pos rfl]
    have em : (((kindOf m : Nat) : Int) ∈ ([1, 2, 3, 4] : List Int)) ↔ (1 ≤ kindOf m ∧ kindOf m ≤ 4) := by
      simp only [List.mem_cons, List.not_mem_nil, or_false]
      omega
    unfold nameOf at q
    by_cases c : 1 ≤ kindOf m ∧ kindOf m ≤ 4
    · rw [if_neg (by simp only [em, c, and_self, decide_true, Bool.not_true]; decide)]
      rw [if_pos c] at q
      refine ⟨by decide, fun p hp => ?_⟩
      refine lp_rng1 8 8 (fun R hR => by simp only [rdA, rdB, Nat.reduceAdd, Nat.reduceSub, Nat.reduceLT, List.replicate]; exact hR) rfl (by decide) ?_
      refine for_range (fun i σ H2 => ∃ (l : List Nat) (v2 v3 v4 : Option V), σ = [some (.int m), some (.ref p), v2, v3, v4] ∧ Same H H2 ∧ H2 p = some (.lst (bts l)) ∧ l.length = i ∧ (List.range i).mapM (nameCh m) = some l) ⟨[], none, none, none, rfl, Same.new hp, upd_same, rfl, rfl⟩ ?_ ?_
      · rintro i σ H2 hi ⟨l, v2, v3, v4, rfl, hs, hl, hlen, hm⟩
        simp only [rdA, rdB, Nat.reduceAdd, Nat.reduceSub, Nat.reduceLT, List.replicate, tBM, rAppend]
        refine ⟨.inl ⟨by decide, by decide⟩, m, 9 + 6 * i, 14 + 6 * i, ?_, by omega, by omega, by omega, ?_⟩
        · simp only [rdA, rdB, Nat.reduceAdd, Nat.reduceSub, Nat.reduceLT, List.replicate]
          omega
        · have e6 : 14 + 6 * i + 1 - (9 + 6 * i) = 6 := by omega
          rw [e6]
          refine ⟨_, rfl, ?_⟩
          simp only [rdA, rdB, Nat.reduceAdd, Nat.reduceSub, Nat.reduceLT, List.replicate]
          have hst := mapM_step (nameCh m) i
          rw [hm] at hst
          cases ch : nameCh m i with
          | none =>
            rw [ch] at hst
            have hn := mapM_none (nameCh m) hst 8 (by omega)
            unfold nameCh at ch
            rw [ch]
            rw [if_pos (by simp [optN])]
            exact q .non H2 hs (by
              have e : ((List.range 8).mapM fun i => Ql35.letter (Ql35.bits 56 m (9 + 6 * i) 6)) = none := hn
              rw [e]
              rfl)
          | some x =>
            rw [ch] at hst
            unfold nameCh at ch
            rw [ch]
            rw [if_neg (by simp [optN])]
            refine ⟨.inl ⟨rfl, _, SqL.of hl⟩, _, hl, ?_, ?_, l ++ [x], ?_, ?_, ?_⟩
            · unfold bts
              rw [List.length_map]
              exact small1000 (by omega)
            · intro b o e
              by_cases hb : b = p
              · subst hb
                rw [hp] at e
                cases e
              · rw [upd_ne hb]
                exact hs b o e
            · rw [upd_same, bts_append]
              rfl
            · rw [List.length_append, hlen]
              rfl
            · exact hst
      · rintro σ H2 ⟨l, v2, v3, v4, rfl, hs, hl, hlen, hm⟩
        simp only [rdA, rdB, Nat.reduceAdd, Nat.reduceSub, Nat.reduceLT, List.replicate]
        refine q (.ref p) H2 hs ?_
        have e : ((List.range 8).mapM fun i => Ql35.letter (Ql35.bits 56 m (9 + 6 * i) 6)) = some l := hm
        rw [e]
        exact ⟨p, rfl, hl, hlen⟩
    · rw [if_pos (by simp only [em, c, decide_false, Bool.not_false])]
      rw [if_neg c] at q
      exact q .non H (Same.refl H) rfl
end
end Ph

namespace Ph
open PySem L2
def fl_Angle (v0 v1 : V) : List (Str × V) := [("parts", v0), ("zones", v1)]
theorem lk_Angle_parts {v0 v1 : V} : (fl_Angle v0 v1).lookup ("parts" : Str) = some v0 := by kernel_rfl
theorem pt_Angle_parts {v0 v1 y : V} : putF "parts" y (fl_Angle v0 v1) = fl_Angle y v1 := by kernel_rfl
theorem lk_Angle_zones {v0 v1 : V} : (fl_Angle v0 v1).lookup ("zones" : Str) = some v1 := by kernel_rfl
theorem pt_Angle_zones {v0 v1 y : V} : putF "zones" y (fl_Angle v0 v1) = fl_Angle v0 y := by kernel_rfl
theorem ln_Angle {v0 v1 : V} : (fl_Angle v0 v1).length < 1000 := by show 2 < 1000; decide
theorem no_Angle_circle {v0 v1 : V} : (fl_Angle v0 v1).lookup ("circle" : Str) = none := by kernel_rfl
theorem no_Angle_told {v0 v1 : V} : (fl_Angle v0 v1).lookup ("told" : Str) = none := by kernel_rfl
theorem no_Angle_reaches {v0 v1 : V} : (fl_Angle v0 v1).lookup ("reaches" : Str) = none := by kernel_rfl
theorem no_Angle_moved {v0 v1 : V} : (fl_Angle v0 v1).lookup ("moved" : Str) = none := by kernel_rfl
theorem in_Angle_parts {v0 : V} : putF "parts" v0 ([] : List (Str × V)) = ([("parts", v0)] : List (Str × V)) := by kernel_rfl
theorem in_Angle_zones {v0 v1 : V} : putF "zones" v1 ([("parts", v0)] : List (Str × V)) = fl_Angle v0 v1 := by kernel_rfl
def fl_Half (v0 v1 v2 v3 : V) : List (Str × V) := [("odd", v0), ("y", v1), ("x", v2), ("heard", v3)]
theorem lk_Half_odd {v0 v1 v2 v3 : V} : (fl_Half v0 v1 v2 v3).lookup ("odd" : Str) = some v0 := by kernel_rfl
theorem pt_Half_odd {v0 v1 v2 v3 y : V} : putF "odd" y (fl_Half v0 v1 v2 v3) = fl_Half y v1 v2 v3 := by kernel_rfl
theorem lk_Half_y {v0 v1 v2 v3 : V} : (fl_Half v0 v1 v2 v3).lookup ("y" : Str) = some v1 := by kernel_rfl
theorem pt_Half_y {v0 v1 v2 v3 y : V} : putF "y" y (fl_Half v0 v1 v2 v3) = fl_Half v0 y v2 v3 := by kernel_rfl
theorem lk_Half_x {v0 v1 v2 v3 : V} : (fl_Half v0 v1 v2 v3).lookup ("x" : Str) = some v2 := by kernel_rfl
theorem pt_Half_x {v0 v1 v2 v3 y : V} : putF "x" y (fl_Half v0 v1 v2 v3) = fl_Half v0 v1 y v3 := by kernel_rfl
theorem lk_Half_heard {v0 v1 v2 v3 : V} : (fl_Half v0 v1 v2 v3).lookup ("heard" : Str) = some v3 := by kernel_rfl
theorem pt_Half_heard {v0 v1 v2 v3 y : V} : putF "heard" y (fl_Half v0 v1 v2 v3) = fl_Half v0 v1 v2 y := by kernel_rfl
theorem ln_Half {v0 v1 v2 v3 : V} : (fl_Half v0 v1 v2 v3).length < 1000 := by show 4 < 1000; decide
theorem in_Half_odd {v0 : V} : putF "odd" v0 ([] : List (Str × V)) = ([("odd", v0)] : List (Str × V)) := by kernel_rfl
theorem in_Half_y {v0 v1 : V} : putF "y" v1 ([("odd", v0)] : List (Str × V)) = ([("odd", v0), ("y", v1)] : List (Str × V)) := by kernel_rfl
theorem in_Half_x {v0 v1 v2 : V} : putF "x" v2 ([("odd", v0), ("y", v1)] : List (Str × V)) = ([("odd", v0), ("y", v1), ("x", v2)] : List (Str × V)) := by kernel_rfl
theorem in_Half_heard {v0 v1 v2 v3 : V} : putF "heard" v3 ([("odd", v0), ("y", v1), ("x", v2)] : List (Str × V)) = fl_Half v0 v1 v2 v3 := by kernel_rfl
def fl_Place (v0 v1 : V) : List (Str × V) := [("latitude", v0), ("longitude", v1)]
theorem lk_Place_latitude {v0 v1 : V} : (fl_Place v0 v1).lookup ("latitude" : Str) = some v0 := by kernel_rfl
theorem pt_Place_latitude {v0 v1 y : V} : putF "latitude" y (fl_Place v0 v1) = fl_Place y v1 := by kernel_rfl
theorem lk_Place_longitude {v0 v1 : V} : (fl_Place v0 v1).lookup ("longitude" : Str) = some v1 := by kernel_rfl
theorem pt_Place_longitude {v0 v1 y : V} : putF "longitude" y (fl_Place v0 v1) = fl_Place v0 y := by kernel_rfl
theorem ln_Place {v0 v1 : V} : (fl_Place v0 v1).length < 1000 := by show 2 < 1000; decide
theorem in_Place_latitude {v0 : V} : putF "latitude" v0 ([] : List (Str × V)) = ([("latitude", v0)] : List (Str × V)) := by kernel_rfl
theorem in_Place_longitude {v0 v1 : V} : putF "longitude" v1 ([("latitude", v0)] : List (Str × V)) = fl_Place v0 v1 := by kernel_rfl
def fl_Aircraft (v0 v1 v2 v3 v4 v5 v6 v7 v8 v9 v10 : V) : List (Str × V) := [("address", v0), ("heard", v1), ("name", v2), ("height", v3), ("identity", v4), ("east", v5), ("north", v6), ("climb", v7), ("place", v8), ("place_heard", v9), ("halves", v10)]
theorem lk_Aircraft_address {v0 v1 v2 v3 v4 v5 v6 v7 v8 v9 v10 : V} : (fl_Aircraft v0 v1 v2 v3 v4 v5 v6 v7 v8 v9 v10).lookup ("address" : Str) = some v0 := by kernel_rfl
theorem pt_Aircraft_address {v0 v1 v2 v3 v4 v5 v6 v7 v8 v9 v10 y : V} : putF "address" y (fl_Aircraft v0 v1 v2 v3 v4 v5 v6 v7 v8 v9 v10) = fl_Aircraft y v1 v2 v3 v4 v5 v6 v7 v8 v9 v10 := by kernel_rfl
theorem lk_Aircraft_heard {v0 v1 v2 v3 v4 v5 v6 v7 v8 v9 v10 : V} : (fl_Aircraft v0 v1 v2 v3 v4 v5 v6 v7 v8 v9 v10).lookup ("heard" : Str) = some v1 := by kernel_rfl
theorem pt_Aircraft_heard {v0 v1 v2 v3 v4 v5 v6 v7 v8 v9 v10 y : V} : putF "heard" y (fl_Aircraft v0 v1 v2 v3 v4 v5 v6 v7 v8 v9 v10) = fl_Aircraft v0 y v2 v3 v4 v5 v6 v7 v8 v9 v10 := by kernel_rfl
theorem lk_Aircraft_name {v0 v1 v2 v3 v4 v5 v6 v7 v8 v9 v10 : V} : (fl_Aircraft v0 v1 v2 v3 v4 v5 v6 v7 v8 v9 v10).lookup ("name" : Str) = some v2 := by kernel_rfl
theorem pt_Aircraft_name {v0 v1 v2 v3 v4 v5 v6 v7 v8 v9 v10 y : V} : putF "name" y (fl_Aircraft v0 v1 v2 v3 v4 v5 v6 v7 v8 v9 v10) = fl_Aircraft v0 v1 y v3 v4 v5 v6 v7 v8 v9 v10 := by kernel_rfl
theorem lk_Aircraft_height {v0 v1 v2 v3 v4 v5 v6 v7 v8 v9 v10 : V} : (fl_Aircraft v0 v1 v2 v3 v4 v5 v6 v7 v8 v9 v10).lookup ("height" : Str) = some v3 := by kernel_rfl
theorem pt_Aircraft_height {v0 v1 v2 v3 v4 v5 v6 v7 v8 v9 v10 y : V} : putF "height" y (fl_Aircraft v0 v1 v2 v3 v4 v5 v6 v7 v8 v9 v10) = fl_Aircraft v0 v1 v2 y v4 v5 v6 v7 v8 v9 v10 := by kernel_rfl
theorem lk_Aircraft_identity {v0 v1 v2 v3 v4 v5 v6 v7 v8 v9 v10 : V} : (fl_Aircraft v0 v1 v2 v3 v4 v5 v6 v7 v8 v9 v10).lookup ("identity" : Str) = some v4 := by kernel_rfl
theorem pt_Aircraft_identity {v0 v1 v2 v3 v4 v5 v6 v7 v8 v9 v10 y : V} : putF "identity" y (fl_Aircraft v0 v1 v2 v3 v4 v5 v6 v7 v8 v9 v10) = fl_Aircraft v0 v1 v2 v3 y v5 v6 v7 v8 v9 v10 := by kernel_rfl
theorem lk_Aircraft_east {v0 v1 v2 v3 v4 v5 v6 v7 v8 v9 v10 : V} : (fl_Aircraft v0 v1 v2 v3 v4 v5 v6 v7 v8 v9 v10).lookup ("east" : Str) = some v5 := by kernel_rfl
theorem pt_Aircraft_east {v0 v1 v2 v3 v4 v5 v6 v7 v8 v9 v10 y : V} : putF "east" y (fl_Aircraft v0 v1 v2 v3 v4 v5 v6 v7 v8 v9 v10) = fl_Aircraft v0 v1 v2 v3 v4 y v6 v7 v8 v9 v10 := by kernel_rfl
theorem lk_Aircraft_north {v0 v1 v2 v3 v4 v5 v6 v7 v8 v9 v10 : V} : (fl_Aircraft v0 v1 v2 v3 v4 v5 v6 v7 v8 v9 v10).lookup ("north" : Str) = some v6 := by kernel_rfl
theorem pt_Aircraft_north {v0 v1 v2 v3 v4 v5 v6 v7 v8 v9 v10 y : V} : putF "north" y (fl_Aircraft v0 v1 v2 v3 v4 v5 v6 v7 v8 v9 v10) = fl_Aircraft v0 v1 v2 v3 v4 v5 y v7 v8 v9 v10 := by kernel_rfl
theorem lk_Aircraft_climb {v0 v1 v2 v3 v4 v5 v6 v7 v8 v9 v10 : V} : (fl_Aircraft v0 v1 v2 v3 v4 v5 v6 v7 v8 v9 v10).lookup ("climb" : Str) = some v7 := by kernel_rfl
theorem pt_Aircraft_climb {v0 v1 v2 v3 v4 v5 v6 v7 v8 v9 v10 y : V} : putF "climb" y (fl_Aircraft v0 v1 v2 v3 v4 v5 v6 v7 v8 v9 v10) = fl_Aircraft v0 v1 v2 v3 v4 v5 v6 y v8 v9 v10 := by kernel_rfl
theorem lk_Aircraft_place {v0 v1 v2 v3 v4 v5 v6 v7 v8 v9 v10 : V} : (fl_Aircraft v0 v1 v2 v3 v4 v5 v6 v7 v8 v9 v10).lookup ("place" : Str) = some v8 := by kernel_rfl
theorem pt_Aircraft_place {v0 v1 v2 v3 v4 v5 v6 v7 v8 v9 v10 y : V} : putF "place" y (fl_Aircraft v0 v1 v2 v3 v4 v5 v6 v7 v8 v9 v10) = fl_Aircraft v0 v1 v2 v3 v4 v5 v6 v7 y v9 v10 := by kernel_rfl
theorem lk_Aircraft_place_heard {v0 v1 v2 v3 v4 v5 v6 v7 v8 v9 v10 : V} : (fl_Aircraft v0 v1 v2 v3 v4 v5 v6 v7 v8 v9 v10).lookup ("place_heard" : Str) = some v9 := by kernel_rfl
theorem pt_Aircraft_place_heard {v0 v1 v2 v3 v4 v5 v6 v7 v8 v9 v10 y : V} : putF "place_heard" y (fl_Aircraft v0 v1 v2 v3 v4 v5 v6 v7 v8 v9 v10) = fl_Aircraft v0 v1 v2 v3 v4 v5 v6 v7 v8 y v10 := by kernel_rfl
theorem lk_Aircraft_halves {v0 v1 v2 v3 v4 v5 v6 v7 v8 v9 v10 : V} : (fl_Aircraft v0 v1 v2 v3 v4 v5 v6 v7 v8 v9 v10).lookup ("halves" : Str) = some v10 := by kernel_rfl
theorem pt_Aircraft_halves {v0 v1 v2 v3 v4 v5 v6 v7 v8 v9 v10 y : V} : putF "halves" y (fl_Aircraft v0 v1 v2 v3 v4 v5 v6 v7 v8 v9 v10) = fl_Aircraft v0 v1 v2 v3 v4 v5 v6 v7 v8 v9 y := by kernel_rfl
theorem ln_Aircraft {v0 v1 v2 v3 v4 v5 v6 v7 v8 v9 v10 : V} : (fl_Aircraft v0 v1 v2 v3 v4 v5 v6 v7 v8 v9 v10).length < 1000 := by show 11 < 1000; decide
theorem no_Aircraft_numbers_at {v0 v1 v2 v3 v4 v5 v6 v7 v8 v9 v10 : V} : (fl_Aircraft v0 v1 v2 v3 v4 v5 v6 v7 v8 v9 v10).lookup ("numbers_at" : Str) = none := by kernel_rfl
theorem no_Aircraft_take_height {v0 v1 v2 v3 v4 v5 v6 v7 v8 v9 v10 : V} : (fl_Aircraft v0 v1 v2 v3 v4 v5 v6 v7 v8 v9 v10).lookup ("take_height" : Str) = none := by kernel_rfl
theorem no_Aircraft_take_extended {v0 v1 v2 v3 v4 v5 v6 v7 v8 v9 v10 : V} : (fl_Aircraft v0 v1 v2 v3 v4 v5 v6 v7 v8 v9 v10).lookup ("take_extended" : Str) = none := by kernel_rfl
theorem no_Aircraft_take_half {v0 v1 v2 v3 v4 v5 v6 v7 v8 v9 v10 : V} : (fl_Aircraft v0 v1 v2 v3 v4 v5 v6 v7 v8 v9 v10).lookup ("take_half" : Str) = none := by kernel_rfl
theorem no_Aircraft_place_by_both {v0 v1 v2 v3 v4 v5 v6 v7 v8 v9 v10 : V} : (fl_Aircraft v0 v1 v2 v3 v4 v5 v6 v7 v8 v9 v10).lookup ("place_by_both" : Str) = none := by kernel_rfl
theorem no_Aircraft_place_by_known {v0 v1 v2 v3 v4 v5 v6 v7 v8 v9 v10 : V} : (fl_Aircraft v0 v1 v2 v3 v4 v5 v6 v7 v8 v9 v10).lookup ("place_by_known" : Str) = none := by kernel_rfl
theorem in_Aircraft_address {v0 : V} : putF "address" v0 ([] : List (Str × V)) = ([("address", v0)] : List (Str × V)) := by kernel_rfl
theorem in_Aircraft_heard {v0 v1 : V} : putF "heard" v1 ([("address", v0)] : List (Str × V)) = ([("address", v0), ("heard", v1)] : List (Str × V)) := by kernel_rfl
theorem in_Aircraft_name {v0 v1 v2 : V} : putF "name" v2 ([("address", v0), ("heard", v1)] : List (Str × V)) = ([("address", v0), ("heard", v1), ("name", v2)] : List (Str × V)) := by kernel_rfl
theorem in_Aircraft_height {v0 v1 v2 v3 : V} : putF "height" v3 ([("address", v0), ("heard", v1), ("name", v2)] : List (Str × V)) = ([("address", v0), ("heard", v1), ("name", v2), ("height", v3)] : List (Str × V)) := by kernel_rfl
theorem in_Aircraft_identity {v0 v1 v2 v3 v4 : V} : putF "identity" v4 ([("address", v0), ("heard", v1), ("name", v2), ("height", v3)] : List (Str × V)) = ([("address", v0), ("heard", v1), ("name", v2), ("height", v3), ("identity", v4)] : List (Str × V)) := by kernel_rfl
theorem in_Aircraft_east {v0 v1 v2 v3 v4 v5 : V} : putF "east" v5 ([("address", v0), ("heard", v1), ("name", v2), ("height", v3), ("identity", v4)] : List (Str × V)) = ([("address", v0), ("heard", v1), ("name", v2), ("height", v3), ("identity", v4), ("east", v5)] : List (Str × V)) := by kernel_rfl
theorem in_Aircraft_north {v0 v1 v2 v3 v4 v5 v6 : V} : putF "north" v6 ([("address", v0), ("heard", v1), ("name", v2), ("height", v3), ("identity", v4), ("east", v5)] : List (Str × V)) = ([("address", v0), ("heard", v1), ("name", v2), ("height", v3), ("identity", v4), ("east", v5), ("north", v6)] : List (Str × V)) := by kernel_rfl
theorem in_Aircraft_climb {v0 v1 v2 v3 v4 v5 v6 v7 : V} : putF "climb" v7 ([("address", v0), ("heard", v1), ("name", v2), ("height", v3), ("identity", v4), ("east", v5), ("north", v6)] : List (Str × V)) = ([("address", v0), ("heard", v1), ("name", v2), ("height", v3), ("identity", v4), ("east", v5), ("north", v6), ("climb", v7)] : List (Str × V)) := by kernel_rfl
theorem in_Aircraft_place {v0 v1 v2 v3 v4 v5 v6 v7 v8 : V} : putF "place" v8 ([("address", v0), ("heard", v1), ("name", v2), ("height", v3), ("identity", v4), ("east", v5), ("north", v6), ("climb", v7)] : List (Str × V)) = ([("address", v0), ("heard", v1), ("name", v2), ("height", v3), ("identity", v4), ("east", v5), ("north", v6), ("climb", v7), ("place", v8)] : List (Str × V)) := by kernel_rfl
theorem in_Aircraft_place_heard {v0 v1 v2 v3 v4 v5 v6 v7 v8 v9 : V} : putF "place_heard" v9 ([("address", v0), ("heard", v1), ("name", v2), ("height", v3), ("identity", v4), ("east", v5), ("north", v6), ("climb", v7), ("place", v8)] : List (Str × V)) = ([("address", v0), ("heard", v1), ("name", v2), ("height", v3), ("identity", v4), ("east", v5), ("north", v6), ("climb", v7), ("place", v8), ("place_heard", v9)] : List (Str × V)) := by kernel_rfl
theorem in_Aircraft_halves {v0 v1 v2 v3 v4 v5 v6 v7 v8 v9 v10 : V} : putF "halves" v10 ([("address", v0), ("heard", v1), ("name", v2), ("height", v3), ("identity", v4), ("east", v5), ("north", v6), ("climb", v7), ("place", v8), ("place_heard", v9)] : List (Str × V)) = fl_Aircraft v0 v1 v2 v3 v4 v5 v6 v7 v8 v9 v10 := by kernel_rfl
def fl_Receiver (v0 v1 : V) : List (Str × V) := [("now", v0), ("known", v1)]
theorem lk_Receiver_now {v0 v1 : V} : (fl_Receiver v0 v1).lookup ("now" : Str) = some v0 := by kernel_rfl
theorem pt_Receiver_now {v0 v1 y : V} : putF "now" y (fl_Receiver v0 v1) = fl_Receiver y v1 := by kernel_rfl
theorem lk_Receiver_known {v0 v1 : V} : (fl_Receiver v0 v1).lookup ("known" : Str) = some v1 := by kernel_rfl
theorem pt_Receiver_known {v0 v1 y : V} : putF "known" y (fl_Receiver v0 v1) = fl_Receiver v0 y := by kernel_rfl
theorem ln_Receiver {v0 v1 : V} : (fl_Receiver v0 v1).length < 1000 := by show 2 < 1000; decide
theorem no_Receiver_begin {v0 v1 : V} : (fl_Receiver v0 v1).lookup ("begin" : Str) = none := by kernel_rfl
theorem no_Receiver_take_message {v0 v1 : V} : (fl_Receiver v0 v1).lookup ("take_message" : Str) = none := by kernel_rfl
theorem no_Receiver_set_time {v0 v1 : V} : (fl_Receiver v0 v1).lookup ("set_time" : Str) = none := by kernel_rfl
theorem no_Receiver_take_reply {v0 v1 : V} : (fl_Receiver v0 v1).lookup ("take_reply" : Str) = none := by kernel_rfl
theorem no_Receiver_take_squitter {v0 v1 : V} : (fl_Receiver v0 v1).lookup ("take_squitter" : Str) = none := by kernel_rfl
theorem no_Receiver_spot_of {v0 v1 : V} : (fl_Receiver v0 v1).lookup ("spot_of" : Str) = none := by kernel_rfl
theorem no_Receiver_known_or_new {v0 v1 : V} : (fl_Receiver v0 v1).lookup ("known_or_new" : Str) = none := by kernel_rfl
theorem no_Receiver_hear {v0 v1 : V} : (fl_Receiver v0 v1).lookup ("hear" : Str) = none := by kernel_rfl
theorem no_Receiver_how_many {v0 v1 : V} : (fl_Receiver v0 v1).lookup ("how_many" : Str) = none := by kernel_rfl
theorem no_Receiver_tell_numbers {v0 v1 : V} : (fl_Receiver v0 v1).lookup ("tell_numbers" : Str) = none := by kernel_rfl
theorem no_Receiver_tell_name {v0 v1 : V} : (fl_Receiver v0 v1).lookup ("tell_name" : Str) = none := by kernel_rfl
theorem in_Receiver_now {v0 : V} : putF "now" v0 ([] : List (Str × V)) = ([("now", v0)] : List (Str × V)) := by kernel_rfl
theorem in_Receiver_known {v0 v1 : V} : putF "known" v1 ([("now", v0)] : List (Str × V)) = fl_Receiver v0 v1 := by kernel_rfl
def fd_Angle := And.intro @lk_Angle_parts <| And.intro @lk_Angle_zones <| And.intro @pt_Angle_parts <| And.intro @pt_Angle_zones <| And.intro @no_Angle_circle <| And.intro @no_Angle_told <| And.intro @no_Angle_reaches <| And.intro @no_Angle_moved <| @ln_Angle
theorem tc_Angle {K : PySem.W.Frag} {mg : Str → Option Value} {A : Ad} (T : Txt K mg A) : Cls K A.Angle ∧ NoAttr K A.Angle "parts" ∧ NoAttr K A.Angle "zones" := ⟨T.cl_Angle, T.na_Angle_parts, T.na_Angle_zones⟩
def fd_Half := And.intro @lk_Half_odd <| And.intro @lk_Half_y <| And.intro @lk_Half_x <| And.intro @lk_Half_heard <| And.intro @pt_Half_odd <| And.intro @pt_Half_y <| And.intro @pt_Half_x <| And.intro @pt_Half_heard <| @ln_Half
theorem tc_Half {K : PySem.W.Frag} {mg : Str → Option Value} {A : Ad} (T : Txt K mg A) : Cls K A.Half ∧ NoAttr K A.Half "odd" ∧ NoAttr K A.Half "y" ∧ NoAttr K A.Half "x" ∧ NoAttr K A.Half "heard" := ⟨T.cl_Half, T.na_Half_odd, T.na_Half_y, T.na_Half_x, T.na_Half_heard⟩
def fd_Place := And.intro @lk_Place_latitude <| And.intro @lk_Place_longitude <| And.intro @pt_Place_latitude <| And.intro @pt_Place_longitude <| @ln_Place
theorem tc_Place {K : PySem.W.Frag} {mg : Str → Option Value} {A : Ad} (T : Txt K mg A) : Cls K A.Place ∧ NoAttr K A.Place "latitude" ∧ NoAttr K A.Place "longitude" := ⟨T.cl_Place, T.na_Place_latitude, T.na_Place_longitude⟩
def fd_Aircraft := And.intro @lk_Aircraft_address <| And.intro @lk_Aircraft_heard <| And.intro @lk_Aircraft_name <| And.intro @lk_Aircraft_height <| And.intro @lk_Aircraft_identity <| And.intro @lk_Aircraft_east <| And.intro @lk_Aircraft_north <| And.intro @lk_Aircraft_climb <| And.intro @lk_Aircraft_place <| And.intro @lk_Aircraft_place_heard <| And.intro @lk_Aircraft_halves <| And.intro @pt_Aircraft_address <| And.intro @pt_Aircraft_heard <| And.intro @pt_Aircraft_name <| And.intro @pt_Aircraft_height <| And.intro @pt_Aircraft_identity <| And.intro @pt_Aircraft_east <| And.intro @pt_Aircraft_north <| And.intro @pt_Aircraft_climb <| And.intro @pt_Aircraft_place <| And.intro @pt_Aircraft_place_heard <| And.intro @pt_Aircraft_halves <| And.intro @no_Aircraft_numbers_at <| And.intro @no_Aircraft_take_height <| And.intro @no_Aircraft_take_extended <| And.intro @no_Aircraft_take_half <| And.intro @no_Aircraft_place_by_both <| And.intro @no_Aircraft_place_by_known <| @ln_Aircraft
theorem tc_Aircraft {K : PySem.W.Frag} {mg : Str → Option Value} {A : Ad} (T : Txt K mg A) : Cls K A.Aircraft ∧ NoAttr K A.Aircraft "address" ∧ NoAttr K A.Aircraft "heard" ∧ NoAttr K A.Aircraft "name" ∧ NoAttr K A.Aircraft "height" ∧ NoAttr K A.Aircraft "identity" ∧ NoAttr K A.Aircraft "east" ∧ NoAttr K A.Aircraft "north" ∧ NoAttr K A.Aircraft "climb" ∧ NoAttr K A.Aircraft "place" ∧ NoAttr K A.Aircraft "place_heard" ∧ NoAttr K A.Aircraft "halves" := ⟨T.cl_Aircraft, T.na_Aircraft_address, T.na_Aircraft_heard, T.na_Aircraft_name, T.na_Aircraft_height, T.na_Aircraft_identity, T.na_Aircraft_east, T.na_Aircraft_north, T.na_Aircraft_climb, T.na_Aircraft_place, T.na_Aircraft_place_heard, T.na_Aircraft_halves⟩
def fd_Receiver := And.intro @lk_Receiver_now <| And.intro @lk_Receiver_known <| And.intro @pt_Receiver_now <| And.intro @pt_Receiver_known <| And.intro @no_Receiver_begin <| And.intro @no_Receiver_take_message <| And.intro @no_Receiver_set_time <| And.intro @no_Receiver_take_reply <| And.intro @no_Receiver_take_squitter <| And.intro @no_Receiver_spot_of <| And.intro @no_Receiver_known_or_new <| And.intro @no_Receiver_hear <| And.intro @no_Receiver_how_many <| And.intro @no_Receiver_tell_numbers <| And.intro @no_Receiver_tell_name <| @ln_Receiver
theorem tc_Receiver {K : PySem.W.Frag} {mg : Str → Option Value} {A : Ad} (T : Txt K mg A) : Cls K A.Receiver ∧ NoAttr K A.Receiver "now" ∧ NoAttr K A.Receiver "known" := ⟨T.cl_Receiver, T.na_Receiver_now, T.na_Receiver_known⟩

theorem cx_K {CX : CXT} {P : Program} {w : World} {K : PySem.W.Frag} {mg : Str → Option Value} {base : Heap} {N : List Str} {qual : Str} {sc : Scope} {f : Addr} {cd : Value} {A : Around} {outer : List Env} {s : Shared} {H : Hp} {E : XK} :
    (cxOf CX P w K mg base N qual sc f cd A outer s H E).K = K := rfl
def rdC := And.intro @HO.ins.injEq @cx_K
section
variable {P : Program} {w : World} {K : PySem.W.Frag} {mg : Str → Option Value} {base : Heap} {A : Ad}
/-- __init__: the new instance gets its attributes -/
def sp_init (C : Addr) (n : Nat) (fl : List V → List (Str × V)) : Sp := fun vs H Q _ => ∃ (p dx : Addr) (as : List V), vs = .ref p :: as ∧ as.length = n ∧ H p = some (.ins C dx []) ∧ Q .non (upd H p (.ins C dx (fl as)))
theorem ok_Angle___init__ (T : Txt K mg A) : FnOk P w K mg base CX0 1 A.f_Angle___init__ A.d_Angle___init__ ["self", "parts", "zones"] (sp_init A.Angle 2 fun as => fl_Angle (as.getD 0 .non) (as.getD 1 .non)) := by
  refine T.fn_Angle___init__.ok sc_Angle___init__ (fun vs H Q E h => ?_) (fun cdv A' outer s H vs Q E hr h => ?_)
  · obtain ⟨p, dx, as, rfl, hl, _⟩ := h
    simpa using hl
  · obtain ⟨p, dx, as, rfl, hl, hp, q⟩ := h
    obtain ⟨a0, a1, rfl⟩ : ∃ a0 a1, as = [a0, a1] := by
      match as, hl with
      | [a0, a1], _ => exact ⟨a0, a1, rfl⟩
    have nd := sc_Angle___init__.nd
    refine ⟨_, (pss_cons (ps_fld (pv 0) (pv 1) rfl)
      (pss_one (ps_fld (pv 0) (pv 2) rfl))), ?_⟩
    simp only [rdA, rdB, Nat.reduceAdd, Nat.reduceSub, Nat.reduceLT, List.replicate, rdC, fd_Angle, tc_Angle T, in_Angle_parts, in_Angle_zones, hp, upd_same, upd_upd]
    exact q
theorem ok_Half___init__ (T : Txt K mg A) : FnOk P w K mg base CX0 1 A.f_Half___init__ A.d_Half___init__ ["self", "odd", "y", "x", "heard"] (sp_init A.Half 4 fun as => fl_Half (as.getD 0 .non) (as.getD 1 .non) (as.getD 2 .non) (as.getD 3 .non)) := by
  refine T.fn_Half___init__.ok sc_Half___init__ (fun vs H Q E h => ?_) (fun cdv A' outer s H vs Q E hr h => ?_)
  · obtain ⟨p, dx, as, rfl, hl, _⟩ := h
    simpa using hl
  · obtain ⟨p, dx, as, rfl, hl, hp, q⟩ := h
    obtain ⟨a0, a1, a2, a3, rfl⟩ : ∃ a0 a1 a2 a3, as = [a0, a1, a2, a3] := by
      match as, hl with
      | [a0, a1, a2, a3], _ => exact ⟨a0, a1, a2, a3, rfl⟩
    have nd := sc_Half___init__.nd
    refine ⟨_, (pss_cons (ps_fld (pv 0) (pv 1) rfl)
      (pss_cons (ps_fld (pv 0) (pv 2) rfl)
      (pss_cons (ps_fld (pv 0) (pv 3) rfl)
      (pss_one (ps_fld (pv 0) (pv 4) rfl))))), ?_⟩
    simp only [rdA, rdB, Nat.reduceAdd, Nat.reduceSub, Nat.reduceLT, List.replicate, rdC, fd_Half, tc_Half T, in_Half_odd, in_Half_y, in_Half_x, in_Half_heard, hp, upd_same, upd_upd]
    exact q
theorem ok_Place___init__ (T : Txt K mg A) : FnOk P w K mg base CX0 1 A.f_Place___init__ A.d_Place___init__ ["self", "latitude", "longitude"] (sp_init A.Place 2 fun as => fl_Place (as.getD 0 .non) (as.getD 1 .non)) := by
  refine T.fn_Place___init__.ok sc_Place___init__ (fun vs H Q E h => ?_) (fun cdv A' outer s H vs Q E hr h => ?_)
  · obtain ⟨p, dx, as, rfl, hl, _⟩ := h
    simpa using hl
  · obtain ⟨p, dx, as, rfl, hl, hp, q⟩ := h
    obtain ⟨a0, a1, rfl⟩ : ∃ a0 a1, as = [a0, a1] := by
      match as, hl with
      | [a0, a1], _ => exact ⟨a0, a1, rfl⟩
    have nd := sc_Place___init__.nd
    refine ⟨_, (pss_cons (ps_fld (pv 0) (pv 1) rfl)
      (pss_one (ps_fld (pv 0) (pv 2) rfl))), ?_⟩
    simp only [rdA, rdB, Nat.reduceAdd, Nat.reduceSub, Nat.reduceLT, List.replicate, rdC, fd_Place, tc_Place T, in_Place_latitude, in_Place_longitude, hp, upd_same, upd_upd]
    exact q
end
end Ph

namespace Ph
open PySem L2
section
variable {P : Program} {w : World} {K : PySem.W.Frag} {mg : Str → Option Value} {base : Heap} {A : Ad}
theorem make_ok {C : Addr} {n : Nat} {fl : List V → List (Str × V)} {vs : List V} {H : Hp} {R : Addr → Hp → Prop} {E : XK} (hl : vs.length = n) (h : ∀ x dx H', Same H H' → H x = none → H' x = some (.ins C dx (fl vs)) → R x H') :
    ∀ x dx, H x = none → H dx = none → dx ≠ x → sp_init C n fl (.ref x :: vs) (upd (upd H dx (.own x)) x (.ins C dx [])) (fun v H2 => v = .non ∧ R x H2) E := by
  intro x dx hx hd ne
  refine ⟨x, dx, vs, rfl, hl, upd_same, rfl, ?_⟩
  rw [upd_upd]
  refine h x dx _ (fun b o e => ?_) hx upd_same
  rw [upd_ne (ne_of_none e hx), upd_ne (ne_of_none e hd)]
  exact e
/-! ### angles -/
def AngleAt (A : Ad) (H : Hp) (a : Addr) (n : Int) (z : Nat) : Prop := ∃ dx, H a = some (.ins A.Angle dx (fl_Angle (.int n) (.int z)))
theorem AngleAt.same {A : Ad} {H H' : Hp} {a : Addr} {n : Int} {z : Nat} (h : AngleAt A H a n z) (s : Same H H') : AngleAt A H' a n z := by
  obtain ⟨dx, h⟩ := h
  exact ⟨dx, s _ _ h⟩
theorem e64 : (2 : Int) ^ 64 = 18446744073709551616 := by decide
theorem m64 (z : Int) (h1 : -18446744073709551616 < z) (h2 : z < 18446744073709551616) (y : Int) : CMul z y := .inl (by rw [e64]; exact ⟨h1, h2⟩)
theorem m64' (z : Int) (h1 : -18446744073709551616 < z) (h2 : z < 18446744073709551616) (y : Int) : CMul y z := .inr (by rw [e64]; exact ⟨h1, h2⟩)
def sp_Angle_circle (A : Ad) : Sp := fun vs H Q _ => ∃ (a : Addr) (n : Int) (z : Nat), vs = [.ref a] ∧ AngleAt A H a n z ∧ Q (.int ((z : Int) * 131072)) H
theorem ok_Angle_circle (T : Txt K mg A) : FnOk P w K mg base CX0 1 A.f_Angle_circle A.d_Angle_circle ["self"] (sp_Angle_circle A) := by
  refine T.fn_Angle_circle.ok sc_Angle_circle (fun vs H Q E h => ?_) (fun cdv A' outer s H vs Q E hr h => ?_)
  · obtain ⟨a, n, z, rfl, _⟩ := h
    rfl
  · obtain ⟨a, n, z, rfl, ⟨dx, ha⟩, q⟩ := h
    have nd := sc_Angle_circle.nd
    refine ⟨_, (pss_one (ps_ret (pe_op op_mul (pe_fld (pv 0) rfl) (pe_gI rfl T.gi_PARTS)))), ?_⟩
    simp only [rdA, rdB, Nat.reduceAdd, Nat.reduceSub, Nat.reduceLT, List.replicate, rdC, fd_Angle, tc_Angle T, ha]
    exact ⟨m64' _ (by decide) (by decide) _, q⟩
def sp_Angle_told (A : Ad) : Sp := fun vs H Q _ => ∃ (a : Addr) (n : Int) (z : Nat), vs = [.ref a] ∧ AngleAt A H a n z ∧ 0 < z ∧ z ≤ 60 ∧ Q (.int (Ql35.tenth z n)) H
theorem ok_Angle_told (T : Txt K mg A) : FnOk P w K mg base CX0 2 A.f_Angle_told A.d_Angle_told ["self"] (sp_Angle_told A) := by
  refine T.fn_Angle_told.ok sc_Angle_told (fun vs H Q E h => ?_) (fun cdv A' outer s H vs Q E hr h => ?_)
  · obtain ⟨a, n, z, rfl, _⟩ := h
    rfl
  · obtain ⟨a, n, z, rfl, ⟨dx, ha⟩, h1, h2, q⟩ := h
    have nd := sc_Angle_told.nd
    refine ⟨_, (pss_one (ps_ret (pe_op op_fdivL (pe_op op_mul (pe_fld (pv 0) rfl) (pe_gI rfl T.gi_CIRCLE_TOLD)) (pe_meth0 (pv 0) T.cl_Angle T.me_Angle_circle (ok_Angle_circle T) (hr.mono (by decide)) (b_Angle_circle T) .nil pass0)))), ?_⟩
    simp only [rdA, rdB, Nat.reduceAdd, Nat.reduceSub, Nat.reduceLT, List.replicate, rdC, fd_Angle, tc_Angle T, ha]
    refine ⟨m64' _ (by decide) (by decide) _, a, n, z, rfl, ⟨dx, ha⟩, _, rfl, ⟨by omega, by omega⟩, ?_⟩
    unfold Ql35.tenth at q
    rw [half_eq] at q
    exact q
def sp_Angle_reaches (A : Ad) : Sp := fun vs H Q _ => ∃ (a : Addr) (n : Int) (z : Nat) (k : Int), vs = [.ref a, .int k] ∧ AngleAt A H a n z ∧ z ≤ 60 ∧ Q (.bl (decide (k * ((z : Int) * 131072) ≤ n * 4))) H
theorem ok_Angle_reaches (T : Txt K mg A) : FnOk P w K mg base CX0 2 A.f_Angle_reaches A.d_Angle_reaches ["self", "quarters"] (sp_Angle_reaches A) := by
  refine T.fn_Angle_reaches.ok sc_Angle_reaches (fun vs H Q E h => ?_) (fun cdv A' outer s H vs Q E hr h => ?_)
  · obtain ⟨a, n, z, k, rfl, _⟩ := h
    rfl
  · obtain ⟨a, n, z, k, rfl, ⟨dx, ha⟩, h2, q⟩ := h
    have nd := sc_Angle_reaches.nd
    refine ⟨_, (pss_one (ps_ret (pe_cmpR op_ge (pe_op op_mul (pe_fld (pv 0) rfl) pe_int) (pe_op op_mul (pv 1) (pe_meth0 (pv 0) T.cl_Angle T.me_Angle_circle (ok_Angle_circle T) (hr.mono (by decide)) (b_Angle_circle T) .nil pass0)) (nomark _)))), ?_⟩
    simp only [rdA, rdB, Nat.reduceAdd, Nat.reduceSub, Nat.reduceLT, List.replicate, rdC, fd_Angle, tc_Angle T, ha]
    exact ⟨m64' _ (by decide) (by decide) _, a, n, z, rfl, ⟨dx, ha⟩, _, rfl, m64' _ (by omega) (by omega) _, q⟩
def sp_Angle_moved (A : Ad) : Sp := fun vs H Q _ => ∃ (a : Addr) (n : Int) (z : Nat) (k : Int), vs = [.ref a, .int k] ∧ AngleAt A H a n z ∧ z ≤ 60 ∧ ∀ x H', Same H H' → AngleAt A H' x (n + k * ((z : Int) * 131072)) z → Q (.ref x) H'
theorem ok_Angle_moved (T : Txt K mg A) : FnOk P w K mg base CX0 3 A.f_Angle_moved A.d_Angle_moved ["self", "circles"] (sp_Angle_moved A) := by
  refine T.fn_Angle_moved.ok sc_Angle_moved (fun vs H Q E h => ?_) (fun cdv A' outer s H vs Q E hr h => ?_)
  · obtain ⟨a, n, z, k, rfl, _⟩ := h
    rfl
  · obtain ⟨a, n, z, k, rfl, ⟨dx, ha⟩, h2, q⟩ := h
    have nd := sc_Angle_moved.nd
    refine ⟨_, (pss_one (ps_ret (pe_make T.mk_Angle (ok_Angle___init__ T) (hr.mono (by decide)) rfl T.mg_Angle (b_Angle___init__ T) .nil pass0 (pa_cons (pe_op op_add (pe_fld (pv 0) rfl) (pe_op op_mul (pv 1) (pe_meth0 (pv 0) T.cl_Angle T.me_Angle_circle (ok_Angle_circle T) (hr.mono (by decide)) (b_Angle_circle T) .nil pass0))) (pa_cons (pe_fld (pv 0) rfl) pa_nil))))), ?_⟩
    simp only [rdA, rdB, Nat.reduceAdd, Nat.reduceSub, Nat.reduceLT, List.replicate, rdC, fd_Angle, tc_Angle T, ha]
    refine ⟨a, n, z, rfl, ⟨dx, ha⟩, ?_⟩
    simp only [rdA, rdB, Nat.reduceAdd, Nat.reduceSub, Nat.reduceLT, List.replicate, rdC, fd_Angle, tc_Angle T, ha]
    exact ⟨m64' _ (by omega) (by omega) _, make_ok rfl fun x dx' H' s _ hx => q x H' s ⟨dx', hx⟩⟩
def sp_beyond_a_pole (A : Ad) : Sp := fun vs H Q _ => ∃ (a : Addr) (n : Int) (z : Nat), vs = [.ref a] ∧ AngleAt A H a n z ∧ Q (.bl (decide (4 * n.natAbs > z * 2 ^ 17))) H
theorem ok_beyond_a_pole (T : Txt K mg A) : FnOk P w K mg base CX0 2 A.f_beyond_a_pole A.d_beyond_a_pole ["latitude"] (sp_beyond_a_pole A) := by
  refine T.fn_beyond_a_pole.ok sc_beyond_a_pole (fun vs H Q E h => ?_) (fun cdv A' outer s H vs Q E hr h => ?_)
  · obtain ⟨a, n, z, rfl, _⟩ := h
    rfl
  · obtain ⟨a, n, z, rfl, ⟨dx, ha⟩, q⟩ := h
    have nd := sc_beyond_a_pole.nd
    refine ⟨_, (pss_one (ps_ret (pe_cmpR op_gt (pe_op op_mul (pe_callB call_abs (by rfl) T.nb_abs bt_abs (pa_cons (pe_fld (pv 0) rfl) pa_nil)) pe_int) (pe_meth0 (pv 0) T.cl_Angle T.me_Angle_circle (ok_Angle_circle T) (hr.mono (by decide)) (b_Angle_circle T) .nil pass0) (nomark _)))), ?_⟩
    simp only [rdA, rdB, Nat.reduceAdd, Nat.reduceSub, Nat.reduceLT, List.replicate, rdC, fd_Angle, tc_Angle T, ha]
    refine ⟨m64' _ (by decide) (by decide) _, a, n, z, rfl, ⟨dx, ha⟩, ?_⟩
    simp only [rdA, rdB, Nat.reduceAdd, Nat.reduceSub, Nat.reduceLT, List.replicate, rdC, fd_Angle, tc_Angle T, ha]
    rw [beyond_py]
    exact q
def sp_zones_of_longitude (A : Ad) : Sp := fun vs H Q _ => ∃ (a : Addr) (n : Int) (z : Nat), vs = [.ref a] ∧ AngleAt A H a n z ∧ z ≤ 60 ∧ Q (.int (Ql35.zones z n : Nat)) H
theorem edges_lats : ([1047047130, 1482817437, 1818626357, 2102939493, 2354504487, 2582924707, 2793898710, 2991135686, 3177209708, 3353993436, 3522899598, 3685025108, 3841241892, 3992256684, 4138651832, 4280914012, 4419454951, 4554626723, 4686733252, 4816039128, 4942776439, 5067150166, 5189342469, 5309516153, 5427817472, 5544378444, 5659318756, 5772747354, 5884763776, 5995459277, 6104917774, 6213216659, 6320427479, 6426616523, 6531845310, 6636171008, 6739646774, 6842322022, 6944242631, 7045451075, 7145986473, 7245884545, 7345177442, 7443893416, 7542056257, 7639684391, 7736789461, 7833374083, 7929428225, 8024923213, 8119801349, 8213956981, 8307199445, 8399173563, 8489166191, 8575541621, 8653536998, 8700000000] : List Int).map V.int = bts Ql35.LATS := by rfl
theorem ok_zones_of_longitude (T : Txt K mg A) : FnOk P w K mg base CX0 2 A.f_zones_of_longitude A.d_zones_of_longitude ["latitude"] (sp_zones_of_longitude A) := by
  refine T.fn_zones_of_longitude.ok sc_zones_of_longitude (fun vs H Q E h => ?_) (fun cdv A' outer s H vs Q E hr h => ?_)
  · obtain ⟨a, n, z, rfl, _⟩ := h
    rfl
  · obtain ⟨a, n, z, rfl, ⟨dx, ha⟩, hz, q⟩ := h
    have nd := sc_zones_of_longitude.nd
    refine ⟨_, (pss_cons (ps_set (i := 1) nd rfl (Or.inl rfl) (pe_op op_mul (pe_callB call_abs (by rfl) T.nb_abs bt_abs (pa_cons (pe_fld (pv 0) rfl) pa_nil)) (pe_gI rfl T.gi_CIRCLE_AT_EDGES)))
      (pss_cons (ps_set (i := 2) nd rfl (Or.inl rfl) (pe_gI rfl T.gi_MOST_ZONES))
      (pss_cons (ps_for PassesOwn.never rfl (pi_tup (pe_gR rfl T.gr_EDGES)) (pg_name (i := 3) nd rfl (Or.inl rfl)) (pss_one (ps_if (pt_cmpR op_ge (pv 1) (pe_op op_mul (pv 3) (pe_meth0 (pv 0) T.cl_Angle T.me_Angle_circle (ok_Angle_circle T) (hr.mono (by decide)) (b_Angle_circle T) .nil pass0)) (nomark _)) (pss_one (ps_aug (i := 2) nd rfl (Or.inl rfl) pe_int ip_sub)) pss_nil)))
      (pss_one (ps_ret (pv 2)))))), ?_⟩
    simp only [rdA, rdB, Nat.reduceAdd, Nat.reduceSub, Nat.reduceLT, List.replicate, rdC, fd_Angle, tc_Angle T, ha]
    refine ⟨m64' _ (by decide) (by decide) _, ?_⟩
    have hS : SqT K H A.k_EDGES (bts Ql35.LATS) := by
      have e := T.sq_EDGES.sq H
      rw [edges_lats] at e
      exact e
    refine lp_tup A.k_EDGES (bts Ql35.LATS) (fun R hR => by simp only [rdA, rdB, Nat.reduceAdd, Nat.reduceSub, Nat.reduceLT, List.replicate]; exact hR) hS ?_
    refine for_tup (fun i σ H2 => ∃ v : Option V, σ = [some (.ref a), some (.int ((if n < 0 then -n else n) * 36000000000)), some (.int (zonesBy z n (Ql35.LATS.take i))), v] ∧ H2 = H) ⟨none, rfl, rfl⟩ (fun i σ H2 _ ⟨_, _, e⟩ => by rw [e]; exact hS) ?_ ?_
    · rintro i y σ H2 hi ⟨v, rfl, rfl⟩
      obtain ⟨x, hx, rfl⟩ := bts_get hi
      simp only [rdA, rdB, Nat.reduceAdd, Nat.reduceSub, Nat.reduceLT, List.replicate, rdC, fd_Angle, tc_Angle T, ha]
      refine ⟨a, n, z, rfl, ⟨dx, ha⟩, _, rfl, m64' _ (by omega) (by omega) _, ?_⟩
      rw [edge_py (z := z) (n := n) (t := x) rfl rfl]
      have e : Ql35.LATS.take (i + 1) = Ql35.LATS.take i ++ [x] := by
        rw [List.take_add_one, hx]
        rfl
      have zs := zonesBy_snoc z n (Ql35.LATS.take i) x
      rw [← e] at zs
      rw [zs]
      cases edgeHit z n x
      · exact ⟨rfl, rfl⟩
      · exact ⟨rfl, rfl⟩
    · rintro σ H2 ⟨v, rfl, rfl⟩
      simp only [rdA, rdB, Nat.reduceAdd, Nat.reduceSub, Nat.reduceLT, List.replicate]
      have e : Ql35.LATS.take (bts Ql35.LATS).length = Ql35.LATS := by unfold bts; rw [List.length_map, List.take_length]
      rw [e, zones_eq]
      exact q
/-! ### places out of two halves -/
def sp_nearest_whole_zone : Sp := fun vs H Q _ => ∃ (n : Int), vs = [.int n] ∧ Q (.int (Ql35.near n)) H
theorem ok_nearest_whole_zone (T : Txt K mg A) : FnOk P w K mg base CX0 1 A.f_nearest_whole_zone A.d_nearest_whole_zone ["parts"] sp_nearest_whole_zone := by
  refine T.fn_nearest_whole_zone.ok sc_nearest_whole_zone (fun vs H Q E h => ?_) (fun cdv A' outer s H vs Q E hr h => ?_)
  · obtain ⟨n, rfl, _⟩ := h
    rfl
  · obtain ⟨n, rfl, q⟩ := h
    have nd := sc_nearest_whole_zone.nd
    refine ⟨_, (pss_one (ps_ret (pe_op op_fdivL (pe_op op_add (pv 0) (pe_gI rfl T.gi_HALF_ZONE)) (pe_gI rfl T.gi_PARTS)))), ?_⟩
    simp only [rdA, rdB, Nat.reduceAdd, Nat.reduceSub, Nat.reduceLT, List.replicate]
    refine ⟨⟨by decide, by decide⟩, ?_⟩
    rw [near_py]
    exact q
def HalfAt (A : Ad) (H : Hp) (a : Addr) (odd : Bool) (h : Ql35.Half) : Prop := ∃ dx, H a = some (.ins A.Half dx (fl_Half (.int (odd.toNat : Nat)) (.int (h.y : Nat)) (.int (h.x : Nat)) (.int (h.at_ : Nat))))
theorem HalfAt.same {A : Ad} {H H' : Hp} {a : Addr} {odd : Bool} {h : Ql35.Half} (x : HalfAt A H a odd h) (s : Same H H') : HalfAt A H' a odd h := by
  obtain ⟨dx, x⟩ := x
  exact ⟨dx, s _ _ x⟩
theorem odd_eq (b : Bool) : decide (((b.toNat : Nat) : Int) = 1) = b := by cases b <;> rfl
def sp_zones_for_half (A : Ad) : Sp := fun vs H Q _ => ∃ (k : Nat) (a : Addr) (odd : Bool) (h : Ql35.Half), vs = [.int k, .ref a] ∧ HalfAt A H a odd h ∧ Q (.int (max 1 (k - odd.toNat) : Nat)) H
theorem ok_zones_for_half (T : Txt K mg A) : FnOk P w K mg base CX0 1 A.f_zones_for_half A.d_zones_for_half ["k", "half"] (sp_zones_for_half A) := by
  refine T.fn_zones_for_half.ok sc_zones_for_half (fun vs H Q E h => ?_) (fun cdv A' outer s H vs Q E hr h => ?_)
  · obtain ⟨k, a, odd, h, rfl, _⟩ := h
    rfl
  · obtain ⟨k, a, odd, h, rfl, ⟨dx, ha⟩, q⟩ := h
    have nd := sc_zones_for_half.nd
    refine ⟨_, (pss_one (ps_ret (pe_callB (call_max2 rfl) (by rfl) T.nb_max bt_max (pa_cons pe_int (pa_cons (pe_op op_sub (pv 0) (pe_fld (pv 1) rfl)) pa_nil))))), ?_⟩
    simp only [rdA, rdB, Nat.reduceAdd, Nat.reduceSub, Nat.reduceLT, List.replicate, rdC, fd_Half, tc_Half T, ha]
    have e : (if (k : Int) - ((odd.toNat : Nat) : Int) > 1 then (k : Int) - ((odd.toNat : Nat) : Int) else 1) = ((max 1 (k - odd.toNat) : Nat) : Int) := by
      split <;> omega
    rw [e]
    exact q
def sp_latitude_in_zone (A : Ad) : Sp := fun vs H Q _ => ∃ (j : Int) (z : Nat) (y : Int), vs = [.int j, .int z, .int y] ∧ 0 < z ∧ z ≤ 60 ∧ ∀ x H', Same H H' → AngleAt A H' x (Ql35.lat z j y) z → Q (.ref x) H'
theorem ok_latitude_in_zone (T : Txt K mg A) : FnOk P w K mg base CX0 4 A.f_latitude_in_zone A.d_latitude_in_zone ["j", "zones", "y"] (sp_latitude_in_zone A) := by
  refine T.fn_latitude_in_zone.ok sc_latitude_in_zone (fun vs H Q E h => ?_) (fun cdv A' outer s H vs Q E hr h => ?_)
  · obtain ⟨j, z, y, rfl, _⟩ := h
    rfl
  · obtain ⟨j, z, y, rfl, h1, h2, q⟩ := h
    have nd := sc_latitude_in_zone.nd
    refine ⟨_, (pss_cons (ps_set (i := 3) nd rfl (Or.inl rfl) (pe_make T.mk_Angle (ok_Angle___init__ T) (hr.mono (by decide)) rfl T.mg_Angle (b_Angle___init__ T) .nil pass0 (pa_cons (pe_op op_add (pe_op op_mul (pe_op op_mod (pv 0) (pv 1)) (pe_gI rfl T.gi_PARTS)) (pv 2)) (pa_cons (pv 1) pa_nil))))
      (pss_one (ps_ret (pe_ifExp (pt_val (pe_meth (pv 3) T.cl_Angle T.me_Angle_reaches (ok_Angle_reaches T) (hr.mono (by decide)) (b_Angle_reaches T) .nil pass0 (pa_cons pe_int pa_nil))) (pe_meth (pv 3) T.cl_Angle T.me_Angle_moved (ok_Angle_moved T) (hr.mono (by decide)) (b_Angle_moved T) .nil pass0 (pa_cons (pe_un un_neg pe_int) pa_nil)) (pv 3))))), ?_⟩
    simp only [rdA, rdB, Nat.reduceAdd, Nat.reduceSub, Nat.reduceLT, List.replicate]
    refine ⟨by omega, m64' _ (by decide) (by decide) _, make_ok rfl fun x dx H1 s1 _ hx => ?_⟩
    refine ⟨_, _, hx, no_Angle_reaches, x, _, z, 3, rfl, ⟨dx, hx⟩, h2, _, rfl, ?_⟩
    rw [lat_py] at q
    by_cases c : 3 * ((z : Int) * 131072) ≤ (j % (z : Int) * 131072 + y) * 4
    · rw [if_pos (decide_eq_true c)]
      rw [if_pos c] at q
      exact ⟨_, _, hx, no_Angle_moved, x, _, z, -1, rfl, ⟨dx, hx⟩, h2, fun x' H' s' ha => q x' H' (s1.trans s') ha⟩
    · rw [if_neg (by simpa using c)]
      rw [if_neg c] at q
      exact q x H1 s1 ⟨dx, hx⟩
def sp_within_half_a_circle (A : Ad) : Sp := fun vs H Q _ => ∃ (a : Addr) (n : Int) (z : Nat), vs = [.ref a] ∧ AngleAt A H a n z ∧ z ≤ 60 ∧ ∀ x H', Same H H' → AngleAt A H' x (turned z n) z → Q (.ref x) H'
theorem ok_within_half_a_circle (T : Txt K mg A) : FnOk P w K mg base CX0 4 A.f_within_half_a_circle A.d_within_half_a_circle ["longitude"] (sp_within_half_a_circle A) := by
  refine T.fn_within_half_a_circle.ok sc_within_half_a_circle (fun vs H Q E h => ?_) (fun cdv A' outer s H vs Q E hr h => ?_)
  · obtain ⟨a, n, z, rfl, _⟩ := h
    rfl
  · obtain ⟨a, n, z, rfl, ⟨dx, ha⟩, h2, q⟩ := h
    have nd := sc_within_half_a_circle.nd
    refine ⟨_, (pss_cons (ps_if (pt_val (pe_meth (pv 0) T.cl_Angle T.me_Angle_reaches (ok_Angle_reaches T) (hr.mono (by decide)) (b_Angle_reaches T) .nil pass0 (pa_cons pe_int pa_nil))) (pss_one (ps_ret (pe_meth (pv 0) T.cl_Angle T.me_Angle_moved (ok_Angle_moved T) (hr.mono (by decide)) (b_Angle_moved T) .nil pass0 (pa_cons (pe_un un_neg pe_int) pa_nil)))) pss_nil)
      (pss_cons (ps_if (pt_not (pt_val (pe_meth (pv 0) T.cl_Angle T.me_Angle_reaches (ok_Angle_reaches T) (hr.mono (by decide)) (b_Angle_reaches T) .nil pass0 (pa_cons (pe_un un_neg pe_int) pa_nil)))) (pss_one (ps_ret (pe_meth (pv 0) T.cl_Angle T.me_Angle_moved (ok_Angle_moved T) (hr.mono (by decide)) (b_Angle_moved T) .nil pass0 (pa_cons pe_int pa_nil)))) pss_nil)
      (pss_one (ps_ret (pv 0))))), ?_⟩
    simp only [rdA, rdB, Nat.reduceAdd, Nat.reduceSub, Nat.reduceLT, List.replicate, rdC, fd_Angle, tc_Angle T, ha]
    refine ⟨a, n, z, 2, rfl, ⟨dx, ha⟩, h2, ?_⟩
    simp only [rdA, rdB, Nat.reduceAdd, Nat.reduceSub, Nat.reduceLT, List.replicate, rdC, fd_Angle, tc_Angle T, ha]
    unfold turned at q
    dsimp only at q
    by_cases c : 2 * ((z : Int) * 131072) ≤ n * 4
    · rw [if_pos (decide_eq_true c)]
      rw [if_pos (by omega)] at q
      have e : n + -1 * ((z : Int) * 131072) = n - (z : Int) * 131072 := by omega
      exact ⟨a, n, z, -1, rfl, ⟨dx, ha⟩, h2, fun x' H' s' hx => q x' H' s' (by rw [← e]; exact hx)⟩
    · rw [if_neg (by simpa using c)]
      rw [if_neg (by omega)] at q
      refine ⟨a, n, z, -2, rfl, ⟨dx, ha⟩, h2, _, rfl, ?_⟩
      by_cases c2 : -2 * ((z : Int) * 131072) ≤ n * 4
      · rw [if_neg (by simp only [decide_eq_true c2, Bool.not_true]; decide)]
        rw [if_neg (by omega)] at q
        exact q a H (Same.refl H) ⟨dx, ha⟩
      · rw [if_pos (by simp only [decide_eq_false c2, Bool.not_false])]
        rw [if_pos (by omega)] at q
        have e : n + 1 * ((z : Int) * 131072) = n + (z : Int) * 131072 := by omega
        exact ⟨_, _, ha, no_Angle_moved, a, n, z, 1, rfl, ⟨dx, ha⟩, h2, fun x' H' s' hx => q x' H' s' (by rw [← e]; exact hx)⟩
def sp_longitude_in_zone (A : Ad) : Sp := fun vs H Q _ => ∃ (m : Int) (z : Nat) (x : Int), vs = [.int m, .int z, .int x] ∧ 0 < z ∧ z ≤ 60 ∧ ∀ a H', Same H H' → AngleAt A H' a (turned z (m % (z : Int) * 131072 + x)) z → Q (.ref a) H'
theorem ok_longitude_in_zone (T : Txt K mg A) : FnOk P w K mg base CX0 5 A.f_longitude_in_zone A.d_longitude_in_zone ["m", "zones", "x"] (sp_longitude_in_zone A) := by
  refine T.fn_longitude_in_zone.ok sc_longitude_in_zone (fun vs H Q E h => ?_) (fun cdv A' outer s H vs Q E hr h => ?_)
  · obtain ⟨j, z, y, rfl, _⟩ := h
    rfl
  · obtain ⟨j, z, y, rfl, h1, h2, q⟩ := h
    have nd := sc_longitude_in_zone.nd
    refine ⟨_, (pss_one (ps_ret (pe_call (ok_within_half_a_circle T) (hr.mono (by decide)) rfl T.mg_within_half_a_circle T.fn_within_half_a_circle.kp (b_within_half_a_circle T) .nil pass0 (pa_cons (pe_make T.mk_Angle (ok_Angle___init__ T) (hr.mono (by decide)) rfl T.mg_Angle (b_Angle___init__ T) .nil pass0 (pa_cons (pe_op op_add (pe_op op_mul (pe_op op_mod (pv 0) (pv 1)) (pe_gI rfl T.gi_PARTS)) (pv 2)) (pa_cons (pv 1) pa_nil))) pa_nil)))), ?_⟩
    simp only [rdA, rdB, Nat.reduceAdd, Nat.reduceSub, Nat.reduceLT, List.replicate]
    exact ⟨by omega, m64' _ (by decide) (by decide) _, make_ok rfl fun x dx H1 s1 _ hx => ⟨x, _, z, rfl, ⟨dx, hx⟩, h2, fun a H' s2 ha => q a H' (s1.trans s2) ha⟩⟩
end
end Ph

namespace Ph
open PySem L2
section
variable {P : Program} {w : World} {K : PySem.W.Frag} {mg : Str → Option Value} {base : Heap} {A : Ad}
/-! ### near a known place -/
def sp_nearest_angle (A : Ad) : Sp := fun vs H Q _ => ∃ (k : Int) (z : Nat) (y : Int), vs = [.int k, .int z, .int y] ∧ z ≤ 60 ∧ ∀ x H', Same H H' → AngleAt A H' x (Ql35.nearest z k y) z → Q (.ref x) H'
theorem nearest_py2 (z : Nat) (k y : Int) : Ql35.nearest z k y = k * (z : Int) * 131072 / 3600000000 + (if 65536 < (y - k * (z : Int) * 131072 / 3600000000) % 131072 then (y - k * (z : Int) * 131072 / 3600000000) % 131072 - 131072 else (y - k * (z : Int) * 131072 / 3600000000) % 131072) := by
  unfold Ql35.nearest
  dsimp only
  rw [nearest_py, half_eq, Int.mul_assoc]
theorem ok_nearest_angle (T : Txt K mg A) : FnOk P w K mg base CX0 3 A.f_nearest_angle A.d_nearest_angle ["known", "zones", "within"] (sp_nearest_angle A) := by
  refine T.fn_nearest_angle.ok sc_nearest_angle (fun vs H Q E h => ?_) (fun cdv A' outer s H vs Q E hr h => ?_)
  · obtain ⟨k, z, y, rfl, _⟩ := h
    rfl
  · obtain ⟨k, z, y, rfl, hz, q⟩ := h
    have nd := sc_nearest_angle.nd
    refine ⟨_, (pss_cons (ps_set (i := 3) nd rfl (Or.inl rfl) (pe_op op_fdivL (pe_op op_mul (pe_op op_mul (pv 0) (pv 1)) (pe_gI rfl T.gi_PARTS)) (pe_gI rfl T.gi_CIRCLE_TOLD)))
      (pss_cons (ps_set (i := 4) nd rfl (Or.inl rfl) (pe_op op_mod (pe_op op_sub (pv 2) (pv 3)) (pe_gI rfl T.gi_PARTS)))
      (pss_cons (ps_if (pt_cmpR op_gt (pv 4) (pe_gI rfl T.gi_HALF_ZONE) (nomark _)) (pss_one (ps_aug (i := 4) nd rfl (Or.inl rfl) (pe_gI rfl T.gi_PARTS) ip_sub)) pss_nil)
      (pss_one (ps_ret (pe_make T.mk_Angle (ok_Angle___init__ T) (hr.mono (by decide)) rfl T.mg_Angle (b_Angle___init__ T) .nil pass0 (pa_cons (pe_op op_add (pv 3) (pv 4)) (pa_cons (pv 1) pa_nil)))))))), ?_⟩
    simp only [rdA, rdB, Nat.reduceAdd, Nat.reduceSub, Nat.reduceLT, List.replicate]
    refine ⟨m64' _ (by omega) (by omega) _, m64' _ (by decide) (by decide) _, ⟨by decide, by decide⟩, by decide, ?_⟩
    rw [nearest_py2] at q
    generalize k * (z : Int) * 131072 / 3600000000 = p at q ⊢
    by_cases c : 65536 < (y - p) % 131072
    · rw [if_pos (decide_eq_true c)]
      rw [if_pos c] at q
      exact make_ok rfl fun x dx H1 s1 _ hx => q x H1 s1 ⟨dx, hx⟩
    · rw [if_neg (by simpa using c)]
      rw [if_neg c] at q
      exact make_ok rfl fun x dx H1 s1 _ hx => q x H1 s1 ⟨dx, hx⟩
/-! ### places -/
def PlaceAt (A : Ad) (H : Hp) (a : Addr) (la lo : Int) : Prop := ∃ dx, H a = some (.ins A.Place dx (fl_Place (.int la) (.int lo)))
def PlaceV (A : Ad) (H : Hp) (v : V) : Option (Int × Int) → Prop
  | none => v = .non
  | some (la, lo) => ∃ a, v = .ref a ∧ PlaceAt A H a la lo
def placeOf (odd : Bool) (h o : Ql35.Half) : Option (Int × Int) := if odd = true then Ql35.place o.y o.x h.y h.x true else Ql35.place h.y h.x o.y o.x false
def sp_place_out_of_halves (A : Ad) : Sp := fun vs H Q _ => ∃ (a b : Addr) (odd : Bool) (h o : Ql35.Half), vs = [.ref a, .ref b] ∧ HalfAt A H a odd h ∧ HalfAt A H b (!odd) o ∧ ∀ v H', Same H H' → PlaceV A H' v (placeOf odd h o) → Q v H'
end
end Ph

namespace Ph
open PySem L2
section
variable {P : Program} {w : World} {K : PySem.W.Frag} {mg : Str → Option Value} {base : Heap} {A : Ad}
theorem ok_place_out_of_halves (T : Txt K mg A) : FnOk P w K mg base CX0 6 A.f_place_out_of_halves A.d_place_out_of_halves ["last", "other"] (sp_place_out_of_halves A) := by
  refine T.fn_place_out_of_halves.ok sc_place_out_of_halves (fun vs H Q E h => ?_) (fun cdv A' outer s H vs Q E hr h => ?_)
  · obtain ⟨a, b, odd, h, o, rfl, _⟩ := h
    rfl
  · obtain ⟨a, b, odd, h, o, rfl, ⟨dx, ha⟩, ⟨dy, hb⟩, q⟩ := h
    have nd := sc_place_out_of_halves.nd
    refine ⟨_, (pss_cons (ps_set (i := 2) nd rfl (Or.inl rfl) (pe_ifExp (pt_cmpR op_eq (pe_fld (pv 0) rfl) pe_int (nomark _)) (pv 1) (pv 0)))
      (pss_cons (ps_set (i := 3) nd rfl (Or.inl rfl) (pe_ifExp (pt_cmpR op_eq (pe_fld (pv 0) rfl) pe_int (nomark _)) (pv 0) (pv 1)))
      (pss_cons (ps_set (i := 4) nd rfl (Or.inl rfl) (pe_call (ok_nearest_whole_zone T) (hr.mono (by decide)) rfl T.mg_nearest_whole_zone T.fn_nearest_whole_zone.kp (b_nearest_whole_zone T) .nil pass0 (pa_cons (pe_op op_sub (pe_op op_mul (pe_gI rfl T.gi_ODD_ZONES) (pe_fld (pv 2) rfl)) (pe_op op_mul (pe_gI rfl T.gi_EVEN_ZONES) (pe_fld (pv 3) rfl))) pa_nil)))
      (pss_cons (ps_set (i := 5) nd rfl (Or.inl rfl) (pe_call (ok_latitude_in_zone T) (hr.mono (by decide)) rfl T.mg_latitude_in_zone T.fn_latitude_in_zone.kp (b_latitude_in_zone T) .nil pass0 (pa_cons (pv 4) (pa_cons (pe_gI rfl T.gi_EVEN_ZONES) (pa_cons (pe_fld (pv 2) rfl) pa_nil)))))
      (pss_cons (ps_set (i := 6) nd rfl (Or.inl rfl) (pe_call (ok_latitude_in_zone T) (hr.mono (by decide)) rfl T.mg_latitude_in_zone T.fn_latitude_in_zone.kp (b_latitude_in_zone T) .nil pass0 (pa_cons (pv 4) (pa_cons (pe_gI rfl T.gi_ODD_ZONES) (pa_cons (pe_fld (pv 3) rfl) pa_nil)))))
      (pss_cons (ps_if (PW.pt (pw_or (pt_val (pe_call (ok_beyond_a_pole T) (hr.mono (by decide)) rfl T.mg_beyond_a_pole T.fn_beyond_a_pole.kp (b_beyond_a_pole T) .nil pass0 (pa_cons (pv 5) pa_nil))) (pw_or1 (pt_val (pe_call (ok_beyond_a_pole T) (hr.mono (by decide)) rfl T.mg_beyond_a_pole T.fn_beyond_a_pole.kp (b_beyond_a_pole T) .nil pass0 (pa_cons (pv 6) pa_nil)))))) (pss_one (ps_ret pe_non)) pss_nil)
      (pss_cons (ps_set (i := 7) nd rfl (Or.inl rfl) (pe_call (ok_zones_of_longitude T) (hr.mono (by decide)) rfl T.mg_zones_of_longitude T.fn_zones_of_longitude.kp (b_zones_of_longitude T) .nil pass0 (pa_cons (pv 5) pa_nil)))
      (pss_cons (ps_if (pt_cmpR op_ne (pe_call (ok_zones_of_longitude T) (hr.mono (by decide)) rfl T.mg_zones_of_longitude T.fn_zones_of_longitude.kp (b_zones_of_longitude T) .nil pass0 (pa_cons (pv 6) pa_nil)) (pv 7) (nomark _)) (pss_one (ps_ret pe_non)) pss_nil)
      (pss_cons (ps_set (i := 8) nd rfl (Or.inl rfl) (pe_call (ok_nearest_whole_zone T) (hr.mono (by decide)) rfl T.mg_nearest_whole_zone T.fn_nearest_whole_zone.kp (b_nearest_whole_zone T) .nil pass0 (pa_cons (pe_op op_sub (pe_op op_mul (pe_fld (pv 2) rfl) (pe_op op_sub (pv 7) pe_int)) (pe_op op_mul (pe_fld (pv 3) rfl) (pv 7))) pa_nil)))
      (pss_cons (ps_set (i := 9) nd rfl (Or.inl rfl) (pe_call (ok_longitude_in_zone T) (hr.mono (by decide)) rfl T.mg_longitude_in_zone T.fn_longitude_in_zone.kp (b_longitude_in_zone T) .nil pass0 (pa_cons (pv 8) (pa_cons (pe_call (ok_zones_for_half T) (hr.mono (by decide)) rfl T.mg_zones_for_half T.fn_zones_for_half.kp (b_zones_for_half T) .nil pass0 (pa_cons (pv 7) (pa_cons (pv 0) pa_nil))) (pa_cons (pe_fld (pv 0) rfl) pa_nil)))))
      (pss_cons (ps_set (i := 10) nd rfl (Or.inl rfl) (pe_ifExp (pt_cmpR op_eq (pe_fld (pv 0) rfl) pe_int (nomark _)) (pv 6) (pv 5)))
      (pss_one (ps_ret (pe_make T.mk_Place (ok_Place___init__ T) (hr.mono (by decide)) rfl T.mg_Place (b_Place___init__ T) .nil pass0 (pa_cons (pe_meth0 (pv 10) T.cl_Angle T.me_Angle_told (ok_Angle_told T) (hr.mono (by decide)) (b_Angle_told T) .nil pass0) (pa_cons (pe_meth0 (pv 9) T.cl_Angle T.me_Angle_told (ok_Angle_told T) (hr.mono (by decide)) (b_Angle_told T) .nil pass0) pa_nil)))))))))))))))), ?_⟩
    cases odd with
    | true =>
      unfold placeOf at q
      rw [if_pos rfl, place_py _ _ _ _ _ (Int.natCast_nonneg _) (Int.natCast_nonneg _)] at q
      dsimp only at q
      simp only [rdA, rdB, Nat.reduceAdd, Nat.reduceSub, Nat.reduceLT, List.replicate, rEq, rNe, scal, rdC, fd_Half, tc_Half T, ha, hb, odd_eq, if_true, if_false, Bool.false_eq_true]
      refine ⟨m64 _ (by decide) (by decide) _, m64 _ (by decide) (by decide) _, _, rfl, ?_⟩
      simp only [rdA, rdB, Nat.reduceAdd, Nat.reduceSub, Nat.reduceLT, List.replicate, rEq, rNe, scal, rdC, fd_Half, tc_Half T, ha, hb, odd_eq, if_true, if_false, Bool.false_eq_true]
      refine ⟨_, 60, _, rfl, by decide, by decide, fun x1 H1 s1 a1 => ?_⟩
      have ha1 := s1 _ _ ha
      have hb1 := s1 _ _ hb
      simp only [rdA, rdB, Nat.reduceAdd, Nat.reduceSub, Nat.reduceLT, List.replicate, rEq, rNe, scal, rdC, fd_Half, tc_Half T, ha1, hb1, odd_eq, if_true, if_false, Bool.false_eq_true]
      refine ⟨_, 59, _, rfl, by decide, by decide, fun x2 H2 s2 a2 => ?_⟩
      have ha2 := s2 _ _ ha1
      have hb2 := s2 _ _ hb1
      have a12 := a1.same s2
      have s12 := s1.trans s2
      generalize Ql35.near (59 * (o.y : Int) - 60 * (h.y : Int)) = j at q a2 a12 ⊢
      generalize Ql35.lat 60 j (o.y : Int) = n0 at q a12 ⊢
      generalize Ql35.lat 59 j (h.y : Int) = n1 at q a2 ⊢
      refine ⟨x1, n0, 60, rfl, a12, ?_⟩
      simp only [rdA, rdB, Nat.reduceAdd, Nat.reduceSub, Nat.reduceLT, List.replicate, rEq, rNe, scal, rdC, fd_Half, tc_Half T, ha2, hb2, odd_eq, if_true, if_false, Bool.false_eq_true]
      by_cases c1 : 4 * n0.natAbs > 60 * 2 ^ 17
      · rw [if_pos (decide_eq_true c1)]
        rw [if_pos (.inl c1)] at q
        exact q .non H2 s12 rfl
      · rw [if_neg (by simpa using c1)]
        refine ⟨x2, n1, 59, rfl, a2, ?_⟩
        simp only [rdA, rdB, Nat.reduceAdd, Nat.reduceSub, Nat.reduceLT, List.replicate, rEq, rNe, scal, rdC, fd_Half, tc_Half T, ha2, hb2, odd_eq, if_true, if_false, Bool.false_eq_true]
        by_cases c2 : 4 * n1.natAbs > 59 * 2 ^ 17
        · rw [if_pos (decide_eq_true c2)]
          rw [if_pos (.inr c2)] at q
          exact q .non H2 s12 rfl
        · rw [if_neg (by simpa using c2)]
          rw [if_neg (fun z => z.elim c1 c2)] at q
          refine ⟨x1, n0, 60, rfl, a12, by decide, x2, n1, 59, rfl, a2, by decide, ?_⟩
          simp only [rdA, rdB, Nat.reduceAdd, Nat.reduceSub, Nat.reduceLT, List.replicate, rEq, rNe, scal, rdC, fd_Half, tc_Half T, ha2, hb2, odd_eq, if_true, if_false, Bool.false_eq_true]
          by_cases c3 : Ql35.zones 59 n1 = Ql35.zones 60 n0
          · rw [if_neg (by simp [c3])]
            rw [if_neg (fun z => z c3)] at q
            have hk := zones_le 60 n0
            have hk1 := zones_pos 60 n0
            generalize Ql35.zones 60 n0 = k at q hk hk1 ⊢
            refine ⟨m64' _ (by omega) (by omega) _, m64' _ (by omega) (by omega) _, _, rfl, ?_⟩
            simp only [rdA, rdB, Nat.reduceAdd, Nat.reduceSub, Nat.reduceLT, List.replicate, rEq, rNe, scal, rdC, fd_Half, tc_Half T, ha2, hb2, odd_eq, if_true, if_false, Bool.false_eq_true]
            refine ⟨k, a, true, h, rfl, ⟨dx, ha2⟩, ?_⟩
            simp only [rdA, rdB, Nat.reduceAdd, Nat.reduceSub, Nat.reduceLT, List.replicate, rEq, rNe, scal, rdC, fd_Half, tc_Half T, ha2, hb2, odd_eq, if_true, if_false, Bool.false_eq_true]
            have hz : 1 ≤ max 1 (k - Bool.toNat true) ∧ max 1 (k - Bool.toNat true) ≤ 60 := by omega
            refine ⟨_, _, _, rfl, by omega, by omega, fun x3 H3 s3 a3 => ?_⟩
            have ha3 := s3 _ _ ha2
            have hb3 := s3 _ _ hb2
            obtain ⟨d3, h3⟩ := a3
            obtain ⟨d2, h2⟩ := a2.same s3
            simp only [rdA, rdB, Nat.reduceAdd, Nat.reduceSub, Nat.reduceLT, List.replicate, rEq, rNe, scal, rdC, fd_Half, tc_Half T, ha3, hb3, h2, h3, no_Angle_told, HO.ins.injEq, odd_eq, if_true, if_false, Bool.false_eq_true]
            refine ⟨x2, n1, 59, rfl, ⟨d2, h2⟩, by decide, by decide, ?_⟩
            simp only [rdA, rdB, Nat.reduceAdd, Nat.reduceSub, Nat.reduceLT, List.replicate, rEq, rNe, scal, rdC, fd_Half, tc_Half T, ha3, hb3, h2, h3, no_Angle_told, HO.ins.injEq, odd_eq, if_true, if_false, Bool.false_eq_true]
            refine ⟨x3, _, _, rfl, ⟨d3, h3⟩, by omega, by omega, ?_⟩
            exact make_ok rfl fun x4 d4 H4 s4 _ hx => q _ H4 ((s12.trans s3).trans s4) ⟨x4, rfl, d4, hx⟩
          · rw [if_pos (by simp; omega)]
            rw [if_pos c3] at q
            exact q .non H2 s12 rfl
    | false =>
      unfold placeOf at q
      rw [if_neg Bool.false_ne_true, place_py _ _ _ _ _ (Int.natCast_nonneg _) (Int.natCast_nonneg _)] at q
      dsimp only at q
      simp only [rdA, rdB, Nat.reduceAdd, Nat.reduceSub, Nat.reduceLT, List.replicate, rEq, rNe, scal, rdC, fd_Half, tc_Half T, ha, hb, odd_eq, if_true, if_false, Bool.false_eq_true]
      refine ⟨m64 _ (by decide) (by decide) _, m64 _ (by decide) (by decide) _, _, rfl, ?_⟩
      simp only [rdA, rdB, Nat.reduceAdd, Nat.reduceSub, Nat.reduceLT, List.replicate, rEq, rNe, scal, rdC, fd_Half, tc_Half T, ha, hb, odd_eq, if_true, if_false, Bool.false_eq_true]
      refine ⟨_, 60, _, rfl, by decide, by decide, fun x1 H1 s1 a1 => ?_⟩
      have ha1 := s1 _ _ ha
      have hb1 := s1 _ _ hb
      simp only [rdA, rdB, Nat.reduceAdd, Nat.reduceSub, Nat.reduceLT, List.replicate, rEq, rNe, scal, rdC, fd_Half, tc_Half T, ha1, hb1, odd_eq, if_true, if_false, Bool.false_eq_true]
      refine ⟨_, 59, _, rfl, by decide, by decide, fun x2 H2 s2 a2 => ?_⟩
      have ha2 := s2 _ _ ha1
      have hb2 := s2 _ _ hb1
      have a12 := a1.same s2
      have s12 := s1.trans s2
      generalize Ql35.near (59 * (h.y : Int) - 60 * (o.y : Int)) = j at q a2 a12 ⊢
      generalize Ql35.lat 60 j (h.y : Int) = n0 at q a12 ⊢
      generalize Ql35.lat 59 j (o.y : Int) = n1 at q a2 ⊢
      refine ⟨x1, n0, 60, rfl, a12, ?_⟩
      simp only [rdA, rdB, Nat.reduceAdd, Nat.reduceSub, Nat.reduceLT, List.replicate, rEq, rNe, scal, rdC, fd_Half, tc_Half T, ha2, hb2, odd_eq, if_true, if_false, Bool.false_eq_true]
      by_cases c1 : 4 * n0.natAbs > 60 * 2 ^ 17
      · rw [if_pos (decide_eq_true c1)]
        rw [if_pos (.inl c1)] at q
        exact q .non H2 s12 rfl
      · rw [if_neg (by simpa using c1)]
        refine ⟨x2, n1, 59, rfl, a2, ?_⟩
        simp only [rdA, rdB, Nat.reduceAdd, Nat.reduceSub, Nat.reduceLT, List.replicate, rEq, rNe, scal, rdC, fd_Half, tc_Half T, ha2, hb2, odd_eq, if_true, if_false, Bool.false_eq_true]
        by_cases c2 : 4 * n1.natAbs > 59 * 2 ^ 17
        · rw [if_pos (decide_eq_true c2)]
          rw [if_pos (.inr c2)] at q
          exact q .non H2 s12 rfl
        · rw [if_neg (by simpa using c2)]
          rw [if_neg (fun z => z.elim c1 c2)] at q
          refine ⟨x1, n0, 60, rfl, a12, by decide, x2, n1, 59, rfl, a2, by decide, ?_⟩
          simp only [rdA, rdB, Nat.reduceAdd, Nat.reduceSub, Nat.reduceLT, List.replicate, rEq, rNe, scal, rdC, fd_Half, tc_Half T, ha2, hb2, odd_eq, if_true, if_false, Bool.false_eq_true]
          by_cases c3 : Ql35.zones 59 n1 = Ql35.zones 60 n0
          · rw [if_neg (by simp [c3])]
            rw [if_neg (fun z => z c3)] at q
            have hk := zones_le 60 n0
            have hk1 := zones_pos 60 n0
            generalize Ql35.zones 60 n0 = k at q hk hk1 ⊢
            refine ⟨m64' _ (by omega) (by omega) _, m64' _ (by omega) (by omega) _, _, rfl, ?_⟩
            simp only [rdA, rdB, Nat.reduceAdd, Nat.reduceSub, Nat.reduceLT, List.replicate, rEq, rNe, scal, rdC, fd_Half, tc_Half T, ha2, hb2, odd_eq, if_true, if_false, Bool.false_eq_true]
            refine ⟨k, a, false, h, rfl, ⟨dx, ha2⟩, ?_⟩
            simp only [rdA, rdB, Nat.reduceAdd, Nat.reduceSub, Nat.reduceLT, List.replicate, rEq, rNe, scal, rdC, fd_Half, tc_Half T, ha2, hb2, odd_eq, if_true, if_false, Bool.false_eq_true]
            have hz : 1 ≤ max 1 (k - Bool.toNat false) ∧ max 1 (k - Bool.toNat false) ≤ 60 := by omega
            refine ⟨_, _, _, rfl, by omega, by omega, fun x3 H3 s3 a3 => ?_⟩
            have ha3 := s3 _ _ ha2
            have hb3 := s3 _ _ hb2
            obtain ⟨d3, h3⟩ := a3
            obtain ⟨d2, h2⟩ := a12.same s3
            simp only [rdA, rdB, Nat.reduceAdd, Nat.reduceSub, Nat.reduceLT, List.replicate, rEq, rNe, scal, rdC, fd_Half, tc_Half T, ha3, hb3, h2, h3, no_Angle_told, HO.ins.injEq, odd_eq, if_true, if_false, Bool.false_eq_true]
            refine ⟨x1, n0, 60, rfl, ⟨d2, h2⟩, by decide, by decide, ?_⟩
            simp only [rdA, rdB, Nat.reduceAdd, Nat.reduceSub, Nat.reduceLT, List.replicate, rEq, rNe, scal, rdC, fd_Half, tc_Half T, ha3, hb3, h2, h3, no_Angle_told, HO.ins.injEq, odd_eq, if_true, if_false, Bool.false_eq_true]
            refine ⟨x3, _, _, rfl, ⟨d3, h3⟩, by omega, by omega, ?_⟩
            exact make_ok rfl fun x4 d4 H4 s4 _ hx => q _ H4 ((s12.trans s3).trans s4) ⟨x4, rfl, d4, hx⟩
          · rw [if_pos (by simp; omega)]
            rw [if_pos c3] at q
            exact q .non H2 s12 rfl
end
end Ph

namespace Ph
open PySem L2
section
variable {P : Program} {w : World} {K : PySem.W.Frag} {mg : Str → Option Value} {base : Heap} {A : Ad}
theorem PlaceAt.same {H H' : Hp} {a : Addr} {la lo : Int} (x : PlaceAt A H a la lo) (s : Same H H') : PlaceAt A H' a la lo := by
  obtain ⟨dx, x⟩ := x
  exact ⟨dx, s _ _ x⟩
def sp_place_near (A : Ad) : Sp := fun vs H Q _ => ∃ (k a : Addr) (la lo : Int) (odd : Bool) (h : Ql35.Half), vs = [.ref k, .ref a] ∧ PlaceAt A H k la lo ∧ HalfAt A H a odd h ∧ ∀ v H', Same H H' → PlaceV A H' v (Ql35.placeNear la lo h.y h.x odd) → Q v H'
theorem ok_place_near (T : Txt K mg A) : FnOk P w K mg base CX0 5 A.f_place_near A.d_place_near ["known", "half"] (sp_place_near A) := by
  refine T.fn_place_near.ok sc_place_near (fun vs H Q E h => ?_) (fun cdv A' outer s H vs Q E hr h => ?_)
  · obtain ⟨k, a, la, lo, odd, h, rfl, _⟩ := h
    rfl
  · obtain ⟨k, a, la, lo, odd, h, rfl, ⟨dk, hk⟩, ⟨dx, ha⟩, q⟩ := h
    have nd := sc_place_near.nd
    refine ⟨_, (pss_cons (ps_set (i := 2) nd rfl (Or.inl rfl) (pe_ifExp (pt_cmpR op_eq (pe_fld (pv 1) rfl) pe_int (nomark _)) (pe_gI rfl T.gi_ODD_ZONES) (pe_gI rfl T.gi_EVEN_ZONES)))
      (pss_cons (ps_set (i := 3) nd rfl (Or.inl rfl) (pe_call (ok_nearest_angle T) (hr.mono (by decide)) rfl T.mg_nearest_angle T.fn_nearest_angle.kp (b_nearest_angle T) .nil pass0 (pa_cons (pe_fld (pv 0) rfl) (pa_cons (pv 2) (pa_cons (pe_fld (pv 1) rfl) pa_nil)))))
      (pss_cons (ps_if (pt_val (pe_call (ok_beyond_a_pole T) (hr.mono (by decide)) rfl T.mg_beyond_a_pole T.fn_beyond_a_pole.kp (b_beyond_a_pole T) .nil pass0 (pa_cons (pv 3) pa_nil))) (pss_one (ps_ret pe_non)) pss_nil)
      (pss_cons (ps_set (i := 2) nd rfl (Or.inl rfl) (pe_call (ok_zones_for_half T) (hr.mono (by decide)) rfl T.mg_zones_for_half T.fn_zones_for_half.kp (b_zones_for_half T) .nil pass0 (pa_cons (pe_call (ok_zones_of_longitude T) (hr.mono (by decide)) rfl T.mg_zones_of_longitude T.fn_zones_of_longitude.kp (b_zones_of_longitude T) .nil pass0 (pa_cons (pv 3) pa_nil)) (pa_cons (pv 1) pa_nil))))
      (pss_cons (ps_set (i := 4) nd rfl (Or.inl rfl) (pe_call (ok_within_half_a_circle T) (hr.mono (by decide)) rfl T.mg_within_half_a_circle T.fn_within_half_a_circle.kp (b_within_half_a_circle T) .nil pass0 (pa_cons (pe_call (ok_nearest_angle T) (hr.mono (by decide)) rfl T.mg_nearest_angle T.fn_nearest_angle.kp (b_nearest_angle T) .nil pass0 (pa_cons (pe_fld (pv 0) rfl) (pa_cons (pv 2) (pa_cons (pe_fld (pv 1) rfl) pa_nil)))) pa_nil)))
      (pss_one (ps_ret (pe_make T.mk_Place (ok_Place___init__ T) (hr.mono (by decide)) rfl T.mg_Place (b_Place___init__ T) .nil pass0 (pa_cons (pe_meth0 (pv 3) T.cl_Angle T.me_Angle_told (ok_Angle_told T) (hr.mono (by decide)) (b_Angle_told T) .nil pass0) (pa_cons (pe_meth0 (pv 4) T.cl_Angle T.me_Angle_told (ok_Angle_told T) (hr.mono (by decide)) (b_Angle_told T) .nil pass0) pa_nil)))))))))), ?_⟩
    rw [near_py2] at q
    dsimp only at q
    simp only [rdA, rdB, Nat.reduceAdd, Nat.reduceSub, Nat.reduceLT, List.replicate, rEq, rNe, scal, rdC, fd_Half, tc_Half T, rdC, fd_Place, tc_Place T, ha, hk, odd_eq, if_true, if_false, Bool.false_eq_true]
    cases odd with
    | true =>
      simp only [if_true]
      refine ⟨la, 59, _, rfl, by decide, fun x1 H1 s1 a1 => ?_⟩
      have ha1 := s1 _ _ ha
      have hk1 := s1 _ _ hk
      simp only [rdA, rdB, Nat.reduceAdd, Nat.reduceSub, Nat.reduceLT, List.replicate, rEq, rNe, scal, rdC, fd_Half, tc_Half T, rdC, fd_Place, tc_Place T, ha1, hk1, odd_eq, if_true, if_false, Bool.false_eq_true]
      change ∀ v H', Same H H' → PlaceV A H' v (if 4 * (Ql35.nearest 59 la h.y).natAbs > 59 * 2 ^ 17 then none else some (Ql35.tenth 59 (Ql35.nearest 59 la h.y), Ql35.tenth (max 1 (Ql35.zones 59 (Ql35.nearest 59 la h.y) - 1)) (turned (max 1 (Ql35.zones 59 (Ql35.nearest 59 la h.y) - 1)) (Ql35.nearest (max 1 (Ql35.zones 59 (Ql35.nearest 59 la h.y) - 1)) lo h.x)))) → Q v H' at q
      generalize Ql35.nearest 59 la h.y = n at q a1 ⊢
      refine ⟨x1, n, 59, rfl, a1, ?_⟩
      simp only [rdA, rdB, Nat.reduceAdd, Nat.reduceSub, Nat.reduceLT, List.replicate, rEq, rNe, scal, rdC, fd_Half, tc_Half T, rdC, fd_Place, tc_Place T, ha1, hk1, odd_eq, if_true, if_false, Bool.false_eq_true]
      by_cases c1 : 4 * n.natAbs > 59 * 2 ^ 17
      · rw [if_pos (decide_eq_true c1)]
        rw [if_pos c1] at q
        exact q .non H1 s1 rfl
      · rw [if_neg (by simpa using c1)]
        rw [if_neg c1] at q
        have hk := zones_le 59 n
        refine ⟨x1, n, 59, rfl, a1, by decide, _, a, true, h, rfl, ⟨dx, ha1⟩, ?_⟩
        simp only [rdA, rdB, Nat.reduceAdd, Nat.reduceSub, Nat.reduceLT, List.replicate, rEq, rNe, scal, rdC, fd_Half, tc_Half T, rdC, fd_Place, tc_Place T, ha1, hk1, odd_eq, if_true, if_false, Bool.false_eq_true]
        refine ⟨lo, _, _, rfl, by show max 1 (Ql35.zones 59 n - 1) ≤ 60; omega, fun x2 H2 s2 a2 => ?_⟩
        refine ⟨x2, _, _, rfl, a2, by show max 1 (Ql35.zones 59 n - 1) ≤ 60; omega, fun x3 H3 s3 a3 => ?_⟩
        obtain ⟨d1, h1⟩ := (a1.same s2).same s3
        obtain ⟨d3, h3⟩ := a3
        simp only [rdA, rdB, Nat.reduceAdd, Nat.reduceSub, Nat.reduceLT, List.replicate, rEq, rNe, scal, h1, h3, no_Angle_told, HO.ins.injEq]
        refine ⟨x1, n, 59, rfl, ⟨d1, h1⟩, by decide, by decide, ?_⟩
        simp only [rdA, rdB, Nat.reduceAdd, Nat.reduceSub, Nat.reduceLT, List.replicate, rEq, rNe, scal, h1, h3, no_Angle_told, HO.ins.injEq]
        refine ⟨x3, _, _, rfl, ⟨d3, h3⟩, by show 0 < max 1 (Ql35.zones 59 n - 1); omega, by show max 1 (Ql35.zones 59 n - 1) ≤ 60; omega, ?_⟩
        exact make_ok rfl fun x4 d4 H4 s4 _ hx => q _ H4 (((s1.trans s2).trans s3).trans s4) ⟨x4, rfl, d4, hx⟩
    | false =>
      simp only [Bool.false_eq_true, if_false]
      refine ⟨la, 60, _, rfl, by decide, fun x1 H1 s1 a1 => ?_⟩
      have ha1 := s1 _ _ ha
      have hk1 := s1 _ _ hk
      simp only [rdA, rdB, Nat.reduceAdd, Nat.reduceSub, Nat.reduceLT, List.replicate, rEq, rNe, scal, rdC, fd_Half, tc_Half T, rdC, fd_Place, tc_Place T, ha1, hk1, odd_eq, if_true, if_false, Bool.false_eq_true]
      change ∀ v H', Same H H' → PlaceV A H' v (if 4 * (Ql35.nearest 60 la h.y).natAbs > 60 * 2 ^ 17 then none else some (Ql35.tenth 60 (Ql35.nearest 60 la h.y), Ql35.tenth (max 1 (Ql35.zones 60 (Ql35.nearest 60 la h.y) - 0)) (turned (max 1 (Ql35.zones 60 (Ql35.nearest 60 la h.y) - 0)) (Ql35.nearest (max 1 (Ql35.zones 60 (Ql35.nearest 60 la h.y) - 0)) lo h.x)))) → Q v H' at q
      generalize Ql35.nearest 60 la h.y = n at q a1 ⊢
      refine ⟨x1, n, 60, rfl, a1, ?_⟩
      simp only [rdA, rdB, Nat.reduceAdd, Nat.reduceSub, Nat.reduceLT, List.replicate, rEq, rNe, scal, rdC, fd_Half, tc_Half T, rdC, fd_Place, tc_Place T, ha1, hk1, odd_eq, if_true, if_false, Bool.false_eq_true]
      by_cases c1 : 4 * n.natAbs > 60 * 2 ^ 17
      · rw [if_pos (decide_eq_true c1)]
        rw [if_pos c1] at q
        exact q .non H1 s1 rfl
      · rw [if_neg (by simpa using c1)]
        rw [if_neg c1] at q
        have hk := zones_le 60 n
        refine ⟨x1, n, 60, rfl, a1, by decide, _, a, false, h, rfl, ⟨dx, ha1⟩, ?_⟩
        simp only [rdA, rdB, Nat.reduceAdd, Nat.reduceSub, Nat.reduceLT, List.replicate, rEq, rNe, scal, rdC, fd_Half, tc_Half T, rdC, fd_Place, tc_Place T, ha1, hk1, odd_eq, if_true, if_false, Bool.false_eq_true]
        refine ⟨lo, _, _, rfl, by show max 1 (Ql35.zones 60 n - 0) ≤ 60; omega, fun x2 H2 s2 a2 => ?_⟩
        refine ⟨x2, _, _, rfl, a2, by show max 1 (Ql35.zones 60 n - 0) ≤ 60; omega, fun x3 H3 s3 a3 => ?_⟩
        obtain ⟨d1, h1⟩ := (a1.same s2).same s3
        obtain ⟨d3, h3⟩ := a3
        simp only [rdA, rdB, Nat.reduceAdd, Nat.reduceSub, Nat.reduceLT, List.replicate, rEq, rNe, scal, h1, h3, no_Angle_told, HO.ins.injEq]
        refine ⟨x1, n, 60, rfl, ⟨d1, h1⟩, by decide, by decide, ?_⟩
        simp only [rdA, rdB, Nat.reduceAdd, Nat.reduceSub, Nat.reduceLT, List.replicate, rEq, rNe, scal, h1, h3, no_Angle_told, HO.ins.injEq]
        refine ⟨x3, _, _, rfl, ⟨d3, h3⟩, by show 0 < max 1 (Ql35.zones 60 n - 0); omega, by show max 1 (Ql35.zones 60 n - 0) ≤ 60; omega, ?_⟩
        exact make_ok rfl fun x4 d4 H4 s4 _ hx => q _ H4 (((s1.trans s2).trans s3).trans s4) ⟨x4, rfl, d4, hx⟩
end
end Ph

namespace Ph
open PySem L2
section
variable {A : Ad}
/-! ### what may be changed of what stands there: receivers, aircraft, their lists of halves -/
def muty : HO → Bool
  | .ins _ _ [_, (_, .ref _)] => true
  | .ins _ _ [_, _, _, _, _, _, _, _, _, _, _] => true
  | .lst [_, _] => true
  | _ => false
/-- all is as it was, but what may be changed of S -/
def Frm (S : List Addr) (H H' : Hp) : Prop := ∀ b o, H b = some o → (muty o = false ∨ b ∉ S) → H' b = some o
theorem Frm.refl (S : List Addr) (H : Hp) : Frm S H H := fun _ _ h _ => h
theorem Frm.trans {S : List Addr} {H H1 H2 : Hp} (a : Frm S H H1) (b : Frm S H1 H2) : Frm S H H2 := fun c o h m => b c o (a c o h m) m
theorem Frm.of {S : List Addr} {H H' : Hp} (s : Same H H') : Frm S H H' := fun b o h _ => s b o h
theorem Frm.sub {S S' : List Addr} {H H' : Hp} (a : Frm S H H') (h : ∀ b ∈ S, b ∈ S') : Frm S' H H' := fun b o e m => a b o e (m.imp_right fun n z => n (h b z))
theorem Frm.upd {S : List Addr} {H : Hp} {p : Addr} {o o' : HO} (h : H p = some o) (m : muty o = true) (hp : p ∈ S) : Frm S H (upd H p o') := fun b u e q => by
  have n : b ≠ p := by
    rintro rfl
    rw [h] at e
    cases e
    rcases q with q | q
    · rw [m] at q; cases q
    · exact q hp
  rw [upd_ne n]
  exact e
theorem Frm.new {S : List Addr} {H : Hp} {p : Addr} {o' : HO} (h : H p = none) : Frm S H (L2.upd H p o') := .of (Same.new h)
theorem NameAt.frm {S : List Addr} {H H' : Hp} {v : V} {n : Option (List Nat)} (h : NameAt H v n) (f : Frm S H H') : NameAt H' v n := by
  cases n with
  | none => exact h
  | some l =>
    obtain ⟨a, rfl, ha, hl⟩ := h
    refine ⟨a, rfl, f a _ ha (.inl ?_), hl⟩
    match l, hl with
    | [_, _, _, _, _, _, _, _], _ => rfl
theorem HalfAt.frm {S : List Addr} {H H' : Hp} {a : Addr} {odd : Bool} {h : Ql35.Half} (x : HalfAt A H a odd h) (f : Frm S H H') : HalfAt A H' a odd h := by
  obtain ⟨dx, x⟩ := x
  exact ⟨dx, f _ _ x (.inl rfl)⟩
theorem PlaceAt.frm {S : List Addr} {H H' : Hp} {a : Addr} {la lo : Int} (x : PlaceAt A H a la lo) (f : Frm S H H') : PlaceAt A H' a la lo := by
  obtain ⟨dx, x⟩ := x
  exact ⟨dx, f _ _ x (.inl rfl)⟩
def HalfV (A : Ad) (H : Hp) (v : V) (odd : Bool) : Option Ql35.Half → Prop
  | none => v = .non
  | some h => ∃ a, v = .ref a ∧ HalfAt A H a odd h
theorem HalfV.frm {S : List Addr} {H H' : Hp} {v : V} {odd : Bool} {h : Option Ql35.Half} (x : HalfV A H v odd h) (f : Frm S H H') : HalfV A H' v odd h := by
  cases h with
  | none => exact x
  | some h =>
    obtain ⟨a, e, x⟩ := x
    exact ⟨a, e, x.frm f⟩
def PlaceKn (A : Ad) (H : Hp) (pl ph : V) : Option (Nat × Int × Int) → Prop
  | none => pl = .non
  | some (u, la, lo) => ∃ a, pl = .ref a ∧ PlaceAt A H a la lo ∧ ph = .int (u : Nat)
theorem PlaceKn.frm {S : List Addr} {H H' : Hp} {pl ph : V} {p : Option (Nat × Int × Int)} (x : PlaceKn A H pl ph p) (f : Frm S H H') : PlaceKn A H' pl ph p := by
  cases p with
  | none => exact x
  | some p =>
    obtain ⟨u, la, lo⟩ := p
    obtain ⟨a, e, x, y⟩ := x
    exact ⟨a, e, x.frm f, y⟩
theorem PlaceV.frm {S : List Addr} {H H' : Hp} {v : V} {p : Option (Int × Int)} (x : PlaceV A H v p) (f : Frm S H H') : PlaceV A H' v p := by
  cases p with
  | none => exact x
  | some p =>
    obtain ⟨la, lo⟩ := p
    obtain ⟨a, e, x⟩ := x
    exact ⟨a, e, x.frm f⟩
/-- what an aircraft leans on -/
def Parts (A : Ad) (H : Hp) (hl : Addr) (nm pl ph he ho : V) (name : Option (List Nat)) (place : Option (Nat × Int × Int)) (even odd : Option Ql35.Half) : Prop :=
  NameAt H nm name ∧ PlaceKn A H pl ph place ∧ H hl = some (.lst [he, ho]) ∧ HalfV A H he false even ∧ HalfV A H ho true odd
abbrev craftO (A : Ad) (dx hl : Addr) (nm pl ph : V) (c : Ql35.Craft) : HO := .ins A.Aircraft dx (fl_Aircraft (.int (c.addr : Nat)) (.int (c.heard : Nat)) nm (optI c.height) (optN c.code) (optI (c.speed.map (·.1))) (optI (c.speed.map (·.2))) (optI c.climb) pl ph (.ref hl))
/-- an aircraft stands at p, its halves at hl -/
def CraftAt (A : Ad) (H : Hp) (p hl : Addr) (c : Ql35.Craft) : Prop := ∃ (dx : Addr) (nm pl ph he ho : V), H p = some (craftO A dx hl nm pl ph c) ∧ Parts A H hl nm pl ph he ho c.name c.place c.even c.odd
theorem Parts.frm {S : List Addr} {H H' : Hp} {hl : Addr} {nm pl ph he ho : V} {name : Option (List Nat)} {place : Option (Nat × Int × Int)} {even odd : Option Ql35.Half} (x : Parts A H hl nm pl ph he ho name place even odd) (f : Frm S H H') (n : hl ∉ S) : Parts A H' hl nm pl ph he ho name place even odd := by
  obtain ⟨a, b, c, d, e⟩ := x
  exact ⟨a.frm f, b.frm f, f _ _ c (.inr n), d.frm f, e.frm f⟩
theorem CraftAt.frm {S : List Addr} {H H' : Hp} {p hl : Addr} {c : Ql35.Craft} (x : CraftAt A H p hl c) (f : Frm S H H') (n1 : p ∉ S) (n2 : hl ∉ S) : CraftAt A H' p hl c := by
  obtain ⟨dx, nm, pl, ph, he, ho, a, b⟩ := x
  exact ⟨dx, nm, pl, ph, he, ho, f _ _ a (.inr n1), b.frm f n2⟩
theorem CraftAt.same {H H' : Hp} {p hl : Addr} {c : Ql35.Craft} (x : CraftAt A H p hl c) (s : Same H H') : CraftAt A H' p hl c := x.frm (S := []) (.of s) (by simp) (by simp)
theorem CraftAt.ne {H : Hp} {p hl : Addr} {c : Ql35.Craft} (x : CraftAt A H p hl c) : hl ≠ p := by
  obtain ⟨dx, nm, pl, ph, he, ho, a, b⟩ := x
  exact ne_of b.2.2.1 a (by intro z; cases z)
theorem CraftAt.has {H : Hp} {p hl : Addr} {c : Ql35.Craft} (x : CraftAt A H p hl c) : H p ≠ none ∧ H hl ≠ none := by
  obtain ⟨dx, nm, pl, ph, he, ho, a, b⟩ := x
  rw [a, b.2.2.1]
  exact ⟨by simp, by simp⟩
/-- two aircraft in one place are one -/
theorem CraftAt.addr_ne {H : Hp} {p q hl hl' : Addr} {c d : Ql35.Craft} (x : CraftAt A H p hl c) (y : CraftAt A H q hl' d) (h : c.addr ≠ d.addr) : p ≠ q := by
  obtain ⟨dx, nm, pl, ph, he, ho, a, b⟩ := x
  obtain ⟨dx', nm', pl', ph', he', ho', a', b'⟩ := y
  refine ne_of a a' fun z => h ?_
  unfold craftO fl_Aircraft at z
  injection z with z1 z2 z3
  injection z3 with z4 z5
  injection z4 with z6 z7
  injection z7 with z8
  exact Int.ofNat.inj z8
/-- a write to the object alone -/
theorem Parts.put {H : Hp} {p hl : Addr} {nm pl ph he ho : V} {name : Option (List Nat)} {place : Option (Nat × Int × Int)} {even odd : Option Ql35.Half} {C dx : Addr} {fs : List (Str × V)} {o' : HO} (x : Parts A H hl nm pl ph he ho name place even odd)
    (hp : H p = some (.ins C dx fs)) (m : muty (.ins C dx fs) = true) : Parts A (upd H p o') hl nm pl ph he ho name place even odd :=
  x.frm (S := [p]) (Frm.upd hp m (by simp)) (by
    rw [List.mem_singleton]
    exact ne_of x.2.2.1 hp (by intro z; cases z))
/-! ### the receiver -/
abbrev Known := List (Addr × Addr × Ql35.Craft)
structure Rc (A : Ad) (H : Hp) (r : Addr) (s : Ql35.St) (kl : Addr) (zs : Known) : Prop where
  ob : ∃ dx, H r = some (.ins A.Receiver dx (fl_Receiver (.int (s.now : Nat)) (.ref kl)))
  kn : H kl = some (.lst (zs.map fun z => V.ref z.1))
  cr : ∀ z ∈ zs, CraftAt A H z.1 z.2.1 z.2.2
  st : zs.map (·.2.2) = s.crafts
  n1 : (zs.map (·.1)).Nodup
  n2 : (zs.map (·.2.1)).Nodup
  nk : kl ∉ zs.map (·.2.1)
  le : zs.length ≤ 256
/-- what is the receiver's own, and may change -/
def own (r kl : Addr) (zs : Known) : List Addr := r :: kl :: (zs.map (·.1) ++ zs.map (·.2.1))
/-- from one state to another: what isn't the receiver's own is as it was; what becomes its own was it before, or is new -/
structure Stp (H H' : Hp) (r kl kl' : Addr) (zs zs' : Known) : Prop where
  fr : Frm (own r kl zs) H H'
  ow : ∀ b ∈ own r kl' zs', b ∈ own r kl zs ∨ H b = none
theorem Stp.trans {H H1 H2 : Hp} {r kl kl1 kl2 : Addr} {zs zs1 zs2 : Known} (a : Stp H H1 r kl kl1 zs zs1) (b : Stp H1 H2 r kl1 kl2 zs1 zs2) : Stp H H2 r kl kl2 zs zs2 := by
  refine ⟨fun c o h m => b.fr c o (a.fr c o h m) (m.imp_right fun n z => ?_), fun c hc => ?_⟩
  · rcases a.ow c z with q | q
    · exact n q
    · rw [h] at q; cases q
  · rcases b.ow c hc with q | q
    · exact a.ow c q
    · by_cases z : c ∈ own r kl zs
      · exact .inl z
      · right
        cases e : H c with
        | none => rfl
        | some o =>
          rw [a.fr c o e (.inr z)] at q
          cases q
theorem Stp.refl (H : Hp) (r kl : Addr) (zs : Known) : Stp H H r kl kl zs zs := ⟨.refl _ _, fun _ h => .inl h⟩
theorem Stp.same {H H' : Hp} {r kl : Addr} {zs : Known} (s : Same H H') : Stp H H' r kl kl zs zs := ⟨.of s, fun _ h => .inl h⟩
theorem Rc.same {H H' : Hp} {r kl : Addr} {s : Ql35.St} {zs : Known} (x : Rc A H r s kl zs) (e : Same H H') : Rc A H' r s kl zs :=
  ⟨let ⟨dx, h⟩ := x.ob; ⟨dx, e _ _ h⟩, e _ _ x.kn, fun z hz => (x.cr z hz).same e, x.st, x.n1, x.n2, x.nk, x.le⟩
/-- the first of the known is changed alone -/
theorem Rc.head {H H' : Hp} {r kl p hl : Addr} {s : Ql35.St} {c c' : Ql35.Craft} {zs : Known} (x : Rc A H r s kl ((p, hl, c) :: zs)) (f : Frm [p, hl] H H') (y : CraftAt A H' p hl c') : Rc A H' r { s with crafts := c' :: zs.map (·.2.2) } kl ((p, hl, c') :: zs) := by
  have n1 := x.n1
  have n2 := x.n2
  have nk := x.nk
  rw [List.map_cons, List.nodup_cons] at n1 n2
  rw [List.map_cons, List.mem_cons, not_or] at nk
  obtain ⟨dx, ob⟩ := x.ob
  have hc := x.cr (p, hl, c) (List.mem_cons_self ..)
  have hc' := hc
  obtain ⟨dy, nm, pl, ph, he, ho, a, b⟩ := hc'
  have rp : r ≠ p := ne_of ob a (by intro z; unfold craftO fl_Aircraft fl_Receiver at z; injection z with z1 z2 z3; injection z3 with z4 z5; injection z5 with z6 z7; cases z7)
  have rh : r ≠ hl := ne_of ob b.2.2.1 (by intro z; cases z)
  have kp : kl ≠ p := ne_of x.kn a (by intro z; cases z)
  refine ⟨⟨dx, f _ _ ob (.inr (by simp [rp, rh]))⟩, ?_, ?_, rfl, x.n1, x.n2, x.nk, x.le⟩
  · exact f _ _ x.kn (.inr (by simp [kp, nk.1]))
  · intro z hz
    rcases List.mem_cons.mp hz with e | e
    · subst e; exact y
    · have hz' := x.cr z (List.mem_cons_of_mem _ e)
      have m1 : z.1 ≠ p := fun q => n1.1 (List.mem_map.mpr ⟨z, e, q⟩)
      have m2 : z.2.1 ≠ hl := fun q => n2.1 (List.mem_map.mpr ⟨z, e, q⟩)
      have m3 : z.1 ≠ hl := fun q => by
        obtain ⟨dz, nm', pl', ph', he', ho', a', b'⟩ := hz'
        exact ne_of a' b.2.2.1 (by intro z; cases z) q
      have m4 : z.2.1 ≠ p := fun q => by
        obtain ⟨dz, nm', pl', ph', he', ho', a', b'⟩ := hz'
        exact ne_of b'.2.2.1 a (by intro z; cases z) q
      exact hz'.frm f (by simp [m1, m3]) (by simp [m2, m4])
theorem Stp.head {H H' : Hp} {r kl p hl : Addr} {c c' : Ql35.Craft} {zs : Known} (f : Frm [p, hl] H H') : Stp H H' r kl kl ((p, hl, c) :: zs) ((p, hl, c') :: zs) :=
  ⟨f.sub fun b hb => by
    unfold own
    simp only [List.mem_cons, List.not_mem_nil, or_false] at hb
    rcases hb with e | e <;> subst e <;> simp, fun b hb => .inl hb⟩
/-- the receiver's things stand apart -/
theorem Rc.apart {H : Hp} {r kl : Addr} {s : Ql35.St} {zs : Known} (x : Rc A H r s kl zs) : r ≠ kl ∧ ∀ z ∈ zs, z.1 ≠ r ∧ z.2.1 ≠ r ∧ z.1 ≠ kl ∧ z.2.1 ≠ kl := by
  obtain ⟨dx, ob⟩ := x.ob
  refine ⟨ne_of ob x.kn (by intro z; cases z), fun z hz => ?_⟩
  obtain ⟨dy, nm, pl, ph, he, ho, a, b⟩ := x.cr z hz
  refine ⟨ne_of a ob (by intro z; unfold craftO fl_Aircraft fl_Receiver at z; injection z with z1 z2 z3; injection z3 with z4 z5; injection z5 with z6 z7; cases z7), ne_of b.2.2.1 ob (by intro z; cases z), ne_of a x.kn (by intro z; cases z), fun e => x.nk (List.mem_map.mpr ⟨z, hz, e⟩)⟩
theorem Rc.all {H : Hp} {r kl : Addr} {s : Ql35.St} {zs : Known} (x : Rc A H r s kl zs) {b : Addr} (h : b ∈ own r kl zs) : H b ≠ none := by
  unfold own at h
  simp only [List.mem_cons, List.mem_append, List.mem_map] at h
  rcases h with e | e | ⟨z, hz, e⟩ | ⟨z, hz, e⟩
  · obtain ⟨dx, ob⟩ := x.ob
    rw [e, ob]; simp
  · rw [e, x.kn]; simp
  · rw [← e]; exact (x.cr z hz).has.1
  · rw [← e]; exact (x.cr z hz).has.2
/-- another list of the known, out of these -/
theorem Rc.renew {H H' : Hp} {r kl D : Addr} {s : Ql35.St} {zs zs' : Known} {now : Nat} (x : Rc A H r s kl zs) (f : Frm [r] H H') (ob : ∃ dx, H' r = some (.ins A.Receiver dx (fl_Receiver (.int (now : Nat)) (.ref D)))) (kn : H' D = some (.lst (zs'.map fun z => V.ref z.1))) (hD : H D = none) (sub : zs'.Sublist zs) :
    Rc A H' r ⟨now, zs'.map (·.2.2)⟩ D zs' ∧ Stp H H' r kl D zs zs' := by
  have ap := x.apart
  refine ⟨⟨ob, kn, fun z hz => ?_, rfl, x.n1.sublist (sub.map _), x.n2.sublist (sub.map _), fun m => ?_, Nat.le_trans sub.length_le x.le⟩, f.sub fun b hb => ?_, fun b hb => ?_⟩
  · have hz' := sub.subset hz
    have q := ap.2 z hz'
    exact (x.cr z hz').frm f (by simpa using q.1) (by simpa using q.2.1)
  · obtain ⟨z, hz, e⟩ := List.mem_map.mp m
    have q := (x.cr z (sub.subset hz)).has.2
    rw [e] at q
    exact q hD
  · rw [List.mem_singleton] at hb
    subst hb
    exact List.mem_cons_self ..
  · unfold own at hb ⊢
    simp only [List.mem_cons, List.mem_append, List.mem_map] at hb ⊢
    rcases hb with e | e | ⟨z, hz, e⟩ | ⟨z, hz, e⟩
    · exact .inl (.inl e)
    · right; rw [e]; exact hD
    · exact .inl (.inr (.inr (.inl ⟨z, sub.subset hz, e⟩)))
    · exact .inl (.inr (.inr (.inr ⟨z, sub.subset hz, e⟩)))
/-- a list comprehension that keeps some of a list's items -/
theorem lc_keep {K : PySem.W.Frag} {α : Type} {a : Addr} (ys : List α) (fv : α → V) (keep : α → Bool) {i : Nat} {tt : TT} {σ : L2.St} {H : Hp} {D : Addr} {Qd : Hp → Prop} (hi : i < σ.length) (hD : H D = none) (hs : SqL K H a (ys.map fv)) (hl : ys.length < sizeLine)
    (ht : ∀ y ∈ ys, ∀ (H' : Hp) (R : Bool → Hp → Prop), Same H H' → R (keep y) H' → tt ((σ.set i none).set i (some (fv y))) H' R) (hd : Qd (upd H D (.lst ((ys.filter keep).map fv)))) :
    ∃ W : Nat → Nat → Hp → Prop, (∃ m, W 0 m (upd H D (.lst []))) ∧ ∀ j m H, W j m H →
      ((Itl K a).stop j H ∧ Qd H) ∨ ((Itl K a).go j H ∧ ∃ Nx : Hp → Prop, (∀ H', Nx H' → ∃ m', m' < m ∧ W (j + 1) m' H') ∧ ∀ x H', (Itl K a).yld j H x H' → gName i x (wipe σ [i]) H' fun σ2 H2 => wipe σ2 [i] = wipe σ [i] ∧ tt σ2 H2 fun b H3 =>
        if b = true then tVar i σ2 H3 fun y H4 => ∃ acc, H4 D = some (.lst acc) ∧ acc.length < sizeLine ∧ Nx (upd H4 D (.lst (acc ++ [y]))) else Nx H3) := by
  refine lc_list (K := K) (a := a) (xs := ys.map fv) (fun j H2 => H2 = upd H D (.lst (((ys.take j).filter keep).map fv))) rfl (fun j H2 _ e => ?_) (fun j x H2 hx e => ?_) (fun H2 e => ?_)
  · rw [e]; exact (Same.new hD).seq hs
  · subst e
    rw [List.getElem?_map] at hx
    obtain ⟨y, hy, rfl⟩ := Option.map_eq_some_iff.mp hx
    have et : ys.take (j + 1) = ys.take j ++ [y] := by
      rw [List.take_add_one, hy]
      rfl
    have mem := List.mem_of_getElem? hy
    show wipe ((wipe σ [i]).set i (some (fv y))) [i] = wipe σ [i] ∧ _
    have ew : ∀ τ : L2.St, wipe τ [i] = τ.set i none := fun τ => rfl
    rw [ew, ew]
    refine ⟨by rw [List.set_set, List.set_set], ht y mem _ _ (Same.new hD) ?_⟩
    cases hk : keep y with
    | true =>
      rw [if_pos rfl]
      refine ⟨fv y, by rw [List.getElem?_set_self (by rw [List.length_set]; exact hi)], _, upd_same, ?_, ?_⟩
      · rw [List.length_map]
        have h1 := List.length_filter_le keep (ys.take j)
        have h2 := List.length_take_le' j ys
        omega
      · rw [upd_upd, et, List.filter_append, List.map_append]
        congr 2
        simp [hk]
    | false =>
      rw [if_neg Bool.false_ne_true, et, List.filter_append]
      simp [hk]
  · subst e
    have el : ys.take (ys.map fv).length = ys := by rw [List.length_map, List.take_length]
    rw [el]
    exact hd
end
end Ph

namespace Ph
open PySem L2
section
variable {P : Program} {w : World} {K : PySem.W.Frag} {mg : Str → Option Value} {base : Heap} {A : Ad}
/-! ### half a place in an extended message -/
def sp_half_in (A : Ad) : Sp := fun vs H Q _ => ∃ (m t : Nat), vs = [.int m, .int t] ∧ (hasHalf m = false → Q .non H) ∧ (hasHalf m = true → ∀ a H', Same H H' → HalfAt A H' a (decide (Ql35.bits 56 m 22 1 = 1)) ⟨t, Ql35.bits 56 m 23 17, Ql35.bits 56 m 40 17⟩ → Q (.ref a) H')
theorem odd_bit (m : Nat) : (decide (Ql35.bits 56 m 22 1 = 1)).toNat = Ql35.bits 56 m 22 1 := by
  have h := bits_lt 56 m 22 1
  by_cases c : Ql35.bits 56 m 22 1 = 1
  · rw [decide_eq_true c, c]; rfl
  · rw [decide_eq_false c]
    show 0 = _
    omega
theorem ok_half_in (T : Txt K mg A) : FnOk P w K mg base CX0 4 A.f_half_in A.d_half_in ["extended", "now"] (sp_half_in A) := by
  refine T.fn_half_in.ok sc_half_in (fun vs H Q E h => ?_) (fun cdv A' outer s H vs Q E hr h => ?_)
  · obtain ⟨m, t, rfl, _⟩ := h
    rfl
  · obtain ⟨m, t, rfl, q0, q⟩ := h
    have nd := sc_half_in.nd
    refine ⟨_, (pss_cons (ps_if (pt_cmpR op_notIn_seq (pe_call (ok_kind_of T) (hr.mono (by decide)) rfl T.mg_kind_of T.fn_kind_of.kp (b_kind_of T) .nil pass0 (pa_cons (pv 0) pa_nil)) (pe_gR rfl T.gr_HALF_KINDS) rfl) (pss_one (ps_ret pe_non)) pss_nil)
      (pss_one (ps_ret (pe_make T.mk_Half (ok_Half___init__ T) (hr.mono (by decide)) rfl T.mg_Half (b_Half___init__ T) .nil pass0 (pa_cons (pe_call (ok_bits_in T) (hr.mono (by decide)) rfl T.mg_bits_in T.fn_bits_in.kp (b_bits_in T) .nil pass0 (pa_cons (pv 0) (pa_cons pe_int (pa_cons pe_int pa_nil)))) (pa_cons (pe_call (ok_bits_in T) (hr.mono (by decide)) rfl T.mg_bits_in T.fn_bits_in.kp (b_bits_in T) .nil pass0 (pa_cons (pv 0) (pa_cons pe_int (pa_cons pe_int pa_nil)))) (pa_cons (pe_call (ok_bits_in T) (hr.mono (by decide)) rfl T.mg_bits_in T.fn_bits_in.kp (b_bits_in T) .nil pass0 (pa_cons (pv 0) (pa_cons pe_int (pa_cons pe_int pa_nil)))) (pa_cons (pv 1) pa_nil)))))))), ?_⟩
    simp only [rdA, rdB, Nat.reduceAdd, Nat.reduceSub, Nat.reduceLT, List.replicate]
    refine ⟨m, rfl, rin_ints (T.sq_HALF_KINDS.sq H) ⟨_, rfl, ?_⟩⟩
    rw [if_pos rfl]
    have em : (((kindOf m : Nat) : Int) ∈ ([9, 10, 11, 12, 13, 14, 15, 16, 17, 18, 20, 21, 22] : List Int)) ↔ ((9 ≤ kindOf m ∧ kindOf m ≤ 18) ∨ (20 ≤ kindOf m ∧ kindOf m ≤ 22)) := by
      simp only [List.mem_cons, List.not_mem_nil, or_false]
      omega
    by_cases c : hasHalf m = true
    · have c' := of_decide_eq_true c
      rw [if_neg (by simp only [em, c', decide_true, Bool.not_true]; decide)]
      refine ⟨m, 22, 22, rfl, by decide, by decide, by decide, m, 23, 39, rfl, by decide, by decide, by decide, m, 40, 56, rfl, by decide, by decide, by decide, ?_⟩
      refine make_ok rfl fun x dx H1 s1 _ hx => q c x H1 s1 ⟨dx, ?_⟩
      rw [odd_bit]
      exact hx
    · have c' : ¬ ((9 ≤ kindOf m ∧ kindOf m ≤ 18) ∨ (20 ≤ kindOf m ∧ kindOf m ≤ 22)) := fun z => c (decide_eq_true z)
      rw [if_pos (by simp only [em, c', decide_false, Bool.not_false])]
      exact q0 (by simpa using c)
/-! ### an aircraft -/
def sp_Aircraft_init (A : Ad) : Sp := fun vs H Q _ => ∃ (p dx : Addr) (a : Nat), vs = [.ref p, .int a] ∧ H p = some (.ins A.Aircraft dx []) ∧ ∀ hl H', H hl = none → (∀ b o, H b = some o → b ≠ p → H' b = some o) → CraftAt A H' p hl (Ql35.fresh a 0) → Q .non H'
theorem ok_Aircraft___init__ (T : Txt K mg A) : FnOk P w K mg base CX0 1 A.f_Aircraft___init__ A.d_Aircraft___init__ ["self", "address"] (sp_Aircraft_init A) := by
  refine T.fn_Aircraft___init__.ok sc_Aircraft___init__ (fun vs H Q E h => ?_) (fun cdv A' outer s H vs Q E hr h => ?_)
  · obtain ⟨p, dx, a, rfl, _⟩ := h
    rfl
  · obtain ⟨p, dx, a, rfl, hp, q⟩ := h
    have nd := sc_Aircraft___init__.nd
    refine ⟨_, (pss_cons (ps_fld (pv 0) (pv 1) rfl)
      (pss_cons (ps_fld (pv 0) pe_int rfl)
      (pss_cons (ps_fld (pv 0) pe_non rfl)
      (pss_cons (ps_fld (pv 0) pe_non rfl)
      (pss_cons (ps_fld (pv 0) pe_non rfl)
      (pss_cons (ps_fld (pv 0) pe_non rfl)
      (pss_cons (ps_fld (pv 0) pe_non rfl)
      (pss_cons (ps_fld (pv 0) pe_non rfl)
      (pss_cons (ps_fld (pv 0) pe_non rfl)
      (pss_cons (ps_fld (pv 0) pe_int rfl)
      (pss_one (ps_fld (pv 0) (pe_lst (pa_cons pe_non (pa_cons pe_non pa_nil))) rfl)))))))))))), ?_⟩
    simp only [rdA, rdB, Nat.reduceAdd, Nat.reduceSub, Nat.reduceLT, List.replicate, tLst, rdC, fd_Aircraft, tc_Aircraft T, in_Aircraft_address, in_Aircraft_heard, in_Aircraft_name, in_Aircraft_height, in_Aircraft_identity, in_Aircraft_east, in_Aircraft_north, in_Aircraft_climb, in_Aircraft_place, in_Aircraft_place_heard, in_Aircraft_halves, hp, upd_same, upd_upd]
    refine ⟨by decide, fun hl hn => ?_⟩
    have np : hl ≠ p := by
      rintro rfl
      rw [upd_same] at hn
      cases hn
    have hn' : H hl = none := by
      rw [upd_ne np] at hn
      exact hn
    refine ⟨_, dx, _, (by rw [upd_ne np.symm, upd_same]), T.cl_Aircraft, T.na_Aircraft_halves, by show 10 < 1000; decide, ?_⟩
    rw [in_Aircraft_halves]
    refine q hl _ hn' (fun b o e hb => ?_) ⟨dx, .non, .non, .int 0, .non, .non, upd_same, rfl, rfl, by rw [upd_ne np, upd_same], rfl, rfl⟩
    rw [upd_ne hb, upd_ne (ne_of_none e hn'), upd_ne hb]
    exact e
def sp_take_height (A : Ad) : Sp := fun vs H Q _ => ∃ (p hl : Addr) (c : Ql35.Craft) (h : Option Int), vs = [.ref p, optI h] ∧ CraftAt A H p hl c ∧ ∀ H', Frm [p, hl] H H' → CraftAt A H' p hl (setHeight c h) → Q .non H'
theorem ok_Aircraft_take_height (T : Txt K mg A) : FnOk P w K mg base CX0 1 A.f_Aircraft_take_height A.d_Aircraft_take_height ["self", "height"] (sp_take_height A) := by
  refine T.fn_Aircraft_take_height.ok sc_Aircraft_take_height (fun vs H Q E h => ?_) (fun cdv A' outer s H vs Q E hr h => ?_)
  · obtain ⟨p, hl, c, h, rfl, _⟩ := h
    rfl
  · obtain ⟨p, hl, c, h, rfl, hc, q⟩ := h
    have nd := sc_Aircraft_take_height.nd
    refine ⟨_, (pss_one (ps_if (pt_cmpR op_notN (pv 1) pe_non (nomark _)) (pss_one (ps_fld (pv 0) (pv 1) rfl)) pss_nil)), ?_⟩
    have hc' := hc
    obtain ⟨dx, nm, pl, ph, he, ho, a, b⟩ := hc'
    unfold craftO at a
    cases h with
    | none =>
      simp only [rdA, rdB, Nat.reduceAdd, Nat.reduceSub, Nat.reduceLT, List.replicate, optI]
      exact q H (.refl _ _) hc
    | some z =>
      simp only [rdA, rdB, Nat.reduceAdd, Nat.reduceSub, Nat.reduceLT, List.replicate, rdC, fd_Aircraft, tc_Aircraft T, a, optI]
      exact q _ (.upd a rfl (by simp)) ⟨dx, nm, pl, ph, he, ho, upd_same, b.put a rfl⟩
def sp_place_by_both (A : Ad) : Sp := fun vs H Q _ => ∃ (p hl a : Addr) (c : Ql35.Craft) (odd : Bool) (h : Ql35.Half), vs = [.ref p, .ref a] ∧ CraftAt A H p hl c ∧ HalfAt A H a odd h ∧ ∀ v H', Same H H' → PlaceV A H' v (placeBoth c h.at_ odd h.y h.x) → Q v H'
theorem ok_Aircraft_place_by_both (T : Txt K mg A) : FnOk P w K mg base CX0 7 A.f_Aircraft_place_by_both A.d_Aircraft_place_by_both ["self", "half"] (sp_place_by_both A) := by
  refine T.fn_Aircraft_place_by_both.ok sc_Aircraft_place_by_both (fun vs H Q E h => ?_) (fun cdv A' outer s H vs Q E hr h => ?_)
  · obtain ⟨p, hl, a, c, odd, h, rfl, _⟩ := h
    rfl
  · obtain ⟨p, hl, a, c, odd, h, rfl, hc, ⟨dh, ha⟩, q⟩ := h
    obtain ⟨dx, nm, pl, ph, he, ho, hp, b⟩ := hc
    unfold craftO at hp
    have nd := sc_Aircraft_place_by_both.nd
    refine ⟨_, (pss_cons (ps_set (i := 2) nd rfl (Or.inl rfl) (pe_ix ix_list (pe_fld (pv 0) rfl) (pe_op op_sub pe_int (pe_fld (pv 1) rfl)) (fun _ _ => rfl)))
      (pss_cons (ps_if (PW.pt (pw_or (pt_cmpR op_isN (pv 2) pe_non (nomark _)) (pw_or1 (pt_cmpR op_gt (pe_op op_sub (pe_fld (pv 1) rfl) (pe_fld (pv 2) rfl)) (pe_gI rfl T.gi_OLDEST_HALF) (nomark _))))) (pss_one (ps_ret pe_non)) pss_nil)
      (pss_one (ps_ret (pe_call (ok_place_out_of_halves T) (hr.mono (by decide)) rfl T.mg_place_out_of_halves T.fn_place_out_of_halves.kp (b_place_out_of_halves T) .nil pass0 (pa_cons (pv 1) (pa_cons (pv 2) pa_nil))))))), ?_⟩
    simp only [rdA, rdB, Nat.reduceAdd, Nat.reduceSub, Nat.reduceLT, List.replicate, rdC, fd_Aircraft, tc_Aircraft T, rdC, fd_Half, tc_Half T, ha, hp]
    unfold placeBoth otherOf at q
    cases odd with
    | true =>
      refine ⟨hl, [he, ho], _, he, rfl, rfl, SqL.of b.2.2.1, rfl, ?_⟩
      have hv := b.2.2.2.1
      cases hx : c.even with
      | none =>
        rw [hx] at hv
        cases (show he = .non from hv)
        rw [if_pos rfl, hx] at q
        simp only [rdA, rdB, Nat.reduceAdd, Nat.reduceSub, Nat.reduceLT, List.replicate]
        exact q .non H (Same.refl H) rfl
      | some o =>
        rw [hx] at hv
        obtain ⟨e, rfl, ⟨de, he'⟩⟩ := hv
        rw [if_pos rfl, hx] at q
        simp only [rdA, rdB, Nat.reduceAdd, Nat.reduceSub, Nat.reduceLT, List.replicate, rdC, fd_Half, tc_Half T, ha, he']
        have hP : Ql35.PAIR = 10000 := rfl
        rw [if_neg (by simp)]
        dsimp only at q
        by_cases cc : h.at_ ≤ o.at_ + Ql35.PAIR
        · rw [if_neg (by simp only [decide_eq_true_eq]; omega)]
          rw [if_pos cc] at q
          exact ⟨a, e, true, h, o, rfl, ⟨dh, ha⟩, ⟨de, he'⟩, q⟩
        · rw [if_pos (decide_eq_true (by omega))]
          rw [if_neg cc] at q
          exact q .non H (Same.refl H) rfl
    | false =>
      refine ⟨hl, [he, ho], _, ho, rfl, rfl, SqL.of b.2.2.1, rfl, ?_⟩
      have hv := b.2.2.2.2
      cases hx : c.odd with
      | none =>
        rw [hx] at hv
        cases (show ho = .non from hv)
        rw [if_neg Bool.false_ne_true, hx] at q
        simp only [rdA, rdB, Nat.reduceAdd, Nat.reduceSub, Nat.reduceLT, List.replicate]
        exact q .non H (Same.refl H) rfl
      | some o =>
        rw [hx] at hv
        obtain ⟨e, rfl, ⟨de, he'⟩⟩ := hv
        rw [if_neg Bool.false_ne_true, hx] at q
        simp only [rdA, rdB, Nat.reduceAdd, Nat.reduceSub, Nat.reduceLT, List.replicate, rdC, fd_Half, tc_Half T, ha, he']
        have hP : Ql35.PAIR = 10000 := rfl
        rw [if_neg (by simp)]
        dsimp only at q
        by_cases cc : h.at_ ≤ o.at_ + Ql35.PAIR
        · rw [if_neg (by simp only [decide_eq_true_eq]; omega)]
          rw [if_pos cc] at q
          exact ⟨a, e, false, h, o, rfl, ⟨dh, ha⟩, ⟨de, he'⟩, q⟩
        · rw [if_pos (decide_eq_true (by omega))]
          rw [if_neg cc] at q
          exact q .non H (Same.refl H) rfl
def sp_place_by_known (A : Ad) : Sp := fun vs H Q _ => ∃ (p hl a : Addr) (c : Ql35.Craft) (odd : Bool) (h : Ql35.Half), vs = [.ref p, .ref a] ∧ CraftAt A H p hl c ∧ HalfAt A H a odd h ∧ ∀ v H', Same H H' → PlaceV A H' v (placeKnown c h.at_ odd h.y h.x) → Q v H'
theorem ok_Aircraft_place_by_known (T : Txt K mg A) : FnOk P w K mg base CX0 6 A.f_Aircraft_place_by_known A.d_Aircraft_place_by_known ["self", "half"] (sp_place_by_known A) := by
  refine T.fn_Aircraft_place_by_known.ok sc_Aircraft_place_by_known (fun vs H Q E h => ?_) (fun cdv A' outer s H vs Q E hr h => ?_)
  · obtain ⟨p, hl, a, c, odd, h, rfl, _⟩ := h
    rfl
  · obtain ⟨p, hl, a, c, odd, h, rfl, hc, ⟨dh, ha⟩, q⟩ := h
    obtain ⟨dx, nm, pl, ph, he, ho, hp, b⟩ := hc
    unfold craftO at hp
    have nd := sc_Aircraft_place_by_known.nd
    refine ⟨_, (pss_cons (ps_if (PW.pt (pw_or (pt_cmpR op_isN (pe_fld (pv 0) rfl) pe_non (nomark _)) (pw_or1 (pt_cmpR op_gt (pe_op op_sub (pe_fld (pv 1) rfl) (pe_fld (pv 0) rfl)) (pe_gI rfl T.gi_OLDEST_PLACE) (nomark _))))) (pss_one (ps_ret pe_non)) pss_nil)
      (pss_one (ps_ret (pe_call (ok_place_near T) (hr.mono (by decide)) rfl T.mg_place_near T.fn_place_near.kp (b_place_near T) .nil pass0 (pa_cons (pe_fld (pv 0) rfl) (pa_cons (pv 1) pa_nil)))))), ?_⟩
    unfold placeKnown at q
    have hv := b.2.1
    cases hx : c.place with
    | none =>
      rw [hx] at hv
      cases (show pl = .non from hv)
      rw [hx] at q
      simp only [rdA, rdB, Nat.reduceAdd, Nat.reduceSub, Nat.reduceLT, List.replicate, rdC, fd_Aircraft, tc_Aircraft T, rdC, fd_Half, tc_Half T, ha, hp]
      exact q .non H (Same.refl H) rfl
    | some pp =>
      obtain ⟨u, la, lo⟩ := pp
      rw [hx] at hv
      obtain ⟨e, rfl, he', rfl⟩ := hv
      rw [hx] at q
      simp only [rdA, rdB, Nat.reduceAdd, Nat.reduceSub, Nat.reduceLT, List.replicate, rdC, fd_Aircraft, tc_Aircraft T, rdC, fd_Half, tc_Half T, ha, hp]
      have hP : Ql35.NEAR = 60000 := rfl
      rw [if_neg (by simp)]
      dsimp only at q
      by_cases cc : h.at_ ≤ u + Ql35.NEAR
      · rw [if_neg (by simp only [decide_eq_true_eq]; omega)]
        rw [if_pos cc] at q
        exact ⟨e, a, la, lo, odd, h, rfl, he', ⟨dh, ha⟩, q⟩
      · rw [if_pos (decide_eq_true (by omega))]
        rw [if_neg cc] at q
        exact q .non H (Same.refl H) rfl
end
end Ph

namespace Ph
open PySem L2
section
variable {P : Program} {w : World} {K : PySem.W.Frag} {mg : Str → Option Value} {base : Heap} {A : Ad}
theorem both_with (c : Ql35.Craft) (odd : Bool) (h : Ql35.Half) (t y x : Nat) : placeBoth (withHalf c odd h) t odd y x = placeBoth c t odd y x := by cases odd <;> rfl
theorem known_with (c : Ql35.Craft) (odd : Bool) (h : Ql35.Half) (t y x : Nat) : placeKnown (withHalf c odd h) t odd y x = placeKnown c t odd y x := by cases odd <;> rfl
theorem HalfAt.mk' {H : Hp} {a dx : Addr} {odd : Bool} {h : Ql35.Half} (e : H a = some (.ins A.Half dx (fl_Half (.int (odd.toNat : Nat)) (.int (h.y : Nat)) (.int (h.x : Nat)) (.int (h.at_ : Nat))))) : HalfAt A H a odd h := ⟨dx, e⟩
/-- a half is put into its place -/
theorem craft_half {H : Hp} {p hl a : Addr} {c : Ql35.Craft} {odd : Bool} {h : Ql35.Half} {he ho : V} (hc : CraftAt A H p hl c) (hh : H hl = some (.lst [he, ho])) (ha : HalfAt A H a odd h) :
    CraftAt A (upd H hl (.lst ([he, ho].set odd.toNat (.ref a)))) p hl (withHalf c odd h) := by
  have hne := hc.ne
  obtain ⟨dx, nm, pl, ph, he', ho', hp, b1, b2, b3, b4, b5⟩ := hc
  rw [hh] at b3
  cases b3
  have f : Frm [hl] H (upd H hl (.lst ([he, ho].set odd.toNat (.ref a)))) := .upd hh rfl (by simp)
  have hp' : upd H hl (.lst ([he, ho].set odd.toNat (.ref a))) p = some (craftO A dx hl nm pl ph (withHalf c odd h)) := by
    rw [upd_ne hne.symm, hp]
    cases odd <;> rfl
  cases odd with
  | true => exact ⟨dx, nm, pl, ph, he, .ref a, hp', b1.frm f, b2.frm f, upd_same, b4.frm f, a, rfl, ha.frm f⟩
  | false => exact ⟨dx, nm, pl, ph, .ref a, ho, hp', b1.frm f, b2.frm f, upd_same, ⟨a, rfl, ha.frm f⟩, b5.frm f⟩
def sp_take_half (A : Ad) : Sp := fun vs H Q _ => ∃ (p hl a : Addr) (c : Ql35.Craft) (odd : Bool) (h : Ql35.Half), vs = [.ref p, .ref a] ∧ CraftAt A H p hl c ∧ HalfAt A H a odd h ∧ ∀ H', Frm [p, hl] H H' → CraftAt A H' p hl (Ql35.located c h.at_ odd h.y h.x) → Q .non H'
theorem ok_Aircraft_take_half (T : Txt K mg A) : FnOk P w K mg base CX0 8 A.f_Aircraft_take_half A.d_Aircraft_take_half ["self", "half"] (sp_take_half A) := by
  refine T.fn_Aircraft_take_half.ok sc_Aircraft_take_half (fun vs H Q E h => ?_) (fun cdv A' outer s H vs Q E hr h => ?_)
  · obtain ⟨p, hl, a, c, odd, h, rfl, _⟩ := h
    rfl
  · obtain ⟨p, hl, a, c, odd, h, rfl, hc, ha', q⟩ := h
    obtain ⟨dh, ha⟩ := id ha'
    obtain ⟨dx, nm, pl, ph, he, ho, hp, b⟩ := id hc
    unfold craftO at hp
    have nd := sc_Aircraft_take_half.nd
    refine ⟨_, (pss_cons (ps_asg (pv 1) (pg_sub (pe_fld (pv 0) rfl) (pe_fld (pv 1) rfl) set_list))
      (pss_cons (ps_set (i := 2) nd rfl (Or.inl rfl) (pe_meth (pv 0) T.cl_Aircraft T.me_Aircraft_place_by_both (ok_Aircraft_place_by_both T) (hr.mono (by decide)) (b_Aircraft_place_by_both T) .nil pass0 (pa_cons (pv 1) pa_nil)))
      (pss_cons (ps_if (pt_cmpR op_isN (pv 2) pe_non (nomark _)) (pss_one (ps_set (i := 2) nd rfl (Or.inl rfl) (pe_meth (pv 0) T.cl_Aircraft T.me_Aircraft_place_by_known (ok_Aircraft_place_by_known T) (hr.mono (by decide)) (b_Aircraft_place_by_known T) .nil pass0 (pa_cons (pv 1) pa_nil)))) pss_nil)
      (pss_one (ps_if (pt_cmpR op_notN (pv 2) pe_non (nomark _)) (pss_cons (ps_fld (pv 0) (pv 2) rfl)
      (pss_one (ps_fld (pv 0) (pe_fld (pv 1) rfl) rfl))) pss_nil))))), ?_⟩
    simp only [rdA, rdB, Nat.reduceAdd, Nat.reduceSub, Nat.reduceLT, List.replicate, gSub, rSetL, rdC, fd_Aircraft, tc_Aircraft T, rdC, fd_Half, tc_Half T, ha, hp]
    obtain ⟨b1, b2, b3, b4, b5⟩ := id b
    have hix : ixN [he, ho].length ((odd.toNat : Nat) : Int) = some odd.toNat := by cases odd <;> rfl
    refine ⟨[he, ho], b3, odd.toNat, hix, ?_⟩
    have hc1 := craft_half hc b3 ha'
    have fr1 : Frm [p, hl] H (upd H hl (.lst ([he, ho].set odd.toNat (.ref a)))) := .upd b3 rfl (by simp)
    have ha1 := ha'.frm fr1
    generalize upd H hl (.lst ([he, ho].set odd.toNat (.ref a))) = H1 at hc1 fr1 ha1 ⊢
    have hloc : Ql35.located c h.at_ odd h.y h.x = withPlace (withHalf c odd h) h.at_ (firstOf (placeBoth c h.at_ odd h.y h.x) (placeKnown c h.at_ odd h.y h.x)) := located_py ..
    rw [hloc] at q
    obtain ⟨dx1, nm1, pl1, ph1, he1, ho1, hp1, bb1⟩ := id hc1
    unfold craftO at hp1
    refine ⟨_, _, hp1, no_Aircraft_place_by_both, p, hl, a, _, odd, h, rfl, hc1, ha1, fun v H2 s2 pv => ?_⟩
    rw [both_with] at pv
    cases hB : placeBoth c h.at_ odd h.y h.x with
    | some pp =>
      obtain ⟨la, lo⟩ := pp
      rw [hB] at pv q
      obtain ⟨e, rfl, pe⟩ := pv
      have hcE := hc1.same s2
      have haE := ha1.same s2
      obtain ⟨dxE, nmE, plE, phE, heE, hoE, hpE, bE⟩ := id hcE
      unfold craftO at hpE
      obtain ⟨dhE, haE⟩ := haE
      have hnE : a ≠ p := ne_of haE hpE (by intro z; unfold fl_Aircraft fl_Half at z; injection z with z1 z2 z3; injection z3 with z4 z5; injection z5 with z6 z7; injection z7 with z8 z9; injection z9 with za zb; cases zb)
      have haE' : ∀ o, upd H2 p o a = some (.ins A.Half dhE (fl_Half (.int (odd.toNat : Nat)) (.int (h.y : Nat)) (.int (h.x : Nat)) (.int (h.at_ : Nat)))) := fun o => by rw [upd_ne hnE]; exact haE
      simp only [rdA, rdB, Nat.reduceAdd, Nat.reduceSub, Nat.reduceLT, List.replicate, rdC, fd_Aircraft, tc_Aircraft T, rdC, fd_Half, tc_Half T, hpE, haE', upd_same, upd_upd]
      have frE : Frm [p, hl] H2 (upd H2 p (.ins A.Aircraft dxE (fl_Aircraft (.int ((withHalf c odd h).addr : Nat)) (.int ((withHalf c odd h).heard : Nat)) nmE (optI (withHalf c odd h).height) (optN (withHalf c odd h).code) (optI ((withHalf c odd h).speed.map (·.1))) (optI ((withHalf c odd h).speed.map (·.2))) (optI (withHalf c odd h).climb) (.ref e) (.int (h.at_ : Nat)) (.ref hl)))) := .upd hpE rfl (by simp)
      refine q _ ((fr1.trans (.of (s2))).trans frE) ⟨dxE, nmE, .ref e, .int (h.at_ : Nat), heE, hoE, upd_same, ?_⟩
      have pE := bE.put (o' := .ins A.Aircraft dxE (fl_Aircraft (.int ((withHalf c odd h).addr : Nat)) (.int ((withHalf c odd h).heard : Nat)) nmE (optI (withHalf c odd h).height) (optN (withHalf c odd h).code) (optI ((withHalf c odd h).speed.map (·.1))) (optI ((withHalf c odd h).speed.map (·.2))) (optI (withHalf c odd h).climb) (.ref e) (.int (h.at_ : Nat)) (.ref hl))) hpE rfl
      exact ⟨pE.1, ⟨e, rfl, pe.frm frE, rfl⟩, pE.2.2⟩
    | none =>
      rw [hB] at pv q
      cases (show v = .non from pv)
      rw [if_pos (by simp)]
      have hc2 := hc1.same s2
      have ha2 := ha1.same s2
      obtain ⟨dx2, nm2, pl2, ph2, he2, ho2, hp2, bb2⟩ := id hc2
      unfold craftO at hp2
      refine ⟨_, _, hp2, no_Aircraft_place_by_known, p, hl, a, _, odd, h, rfl, hc2, ha2, fun v H3 s3 pv => ?_⟩
      rw [known_with] at pv
      have s23 := s2.trans s3
      cases hK : placeKnown c h.at_ odd h.y h.x with
      | some pp =>
        obtain ⟨la, lo⟩ := pp
        rw [hK] at pv q
        obtain ⟨e, rfl, pe⟩ := pv
        have hcE := hc1.same s23
        have haE := ha1.same s23
        obtain ⟨dxE, nmE, plE, phE, heE, hoE, hpE, bE⟩ := id hcE
        unfold craftO at hpE
        obtain ⟨dhE, haE⟩ := haE
        have hnE : a ≠ p := ne_of haE hpE (by intro z; unfold fl_Aircraft fl_Half at z; injection z with z1 z2 z3; injection z3 with z4 z5; injection z5 with z6 z7; injection z7 with z8 z9; injection z9 with za zb; cases zb)
        have haE' : ∀ o, upd H3 p o a = some (.ins A.Half dhE (fl_Half (.int (odd.toNat : Nat)) (.int (h.y : Nat)) (.int (h.x : Nat)) (.int (h.at_ : Nat)))) := fun o => by rw [upd_ne hnE]; exact haE
        simp only [rdA, rdB, Nat.reduceAdd, Nat.reduceSub, Nat.reduceLT, List.replicate, rdC, fd_Aircraft, tc_Aircraft T, rdC, fd_Half, tc_Half T, hpE, haE', upd_same, upd_upd]
        have frE : Frm [p, hl] H3 (upd H3 p (.ins A.Aircraft dxE (fl_Aircraft (.int ((withHalf c odd h).addr : Nat)) (.int ((withHalf c odd h).heard : Nat)) nmE (optI (withHalf c odd h).height) (optN (withHalf c odd h).code) (optI ((withHalf c odd h).speed.map (·.1))) (optI ((withHalf c odd h).speed.map (·.2))) (optI (withHalf c odd h).climb) (.ref e) (.int (h.at_ : Nat)) (.ref hl)))) := .upd hpE rfl (by simp)
        refine q _ ((fr1.trans (.of (s23))).trans frE) ⟨dxE, nmE, .ref e, .int (h.at_ : Nat), heE, hoE, upd_same, ?_⟩
        have pE := bE.put (o' := .ins A.Aircraft dxE (fl_Aircraft (.int ((withHalf c odd h).addr : Nat)) (.int ((withHalf c odd h).heard : Nat)) nmE (optI (withHalf c odd h).height) (optN (withHalf c odd h).code) (optI ((withHalf c odd h).speed.map (·.1))) (optI ((withHalf c odd h).speed.map (·.2))) (optI (withHalf c odd h).climb) (.ref e) (.int (h.at_ : Nat)) (.ref hl))) hpE rfl
        exact ⟨pE.1, ⟨e, rfl, pe.frm frE, rfl⟩, pE.2.2⟩
      | none =>
        rw [hK] at pv q
        cases (show v = .non from pv)
        rw [if_neg (by simp)]
        exact q H3 (fr1.trans (.of s23)) (hc1.same s23)
end
end Ph

namespace Ph
open PySem L2
section
variable {P : Program} {w : World} {K : PySem.W.Frag} {mg : Str → Option Value} {base : Heap} {A : Ad}
theorem seqI {t u : TS} {D : Ends} {σ : L2.St} {H : Hp} (J : L2.St → Hp → Prop) (h1 : ∀ U : L2.St → Hp → Prop, (∀ σ' H', J σ' H' → U σ' H') → t { D with nx := U } σ H) (h2 : ∀ σ' H', J σ' H' → u D σ' H') : tSeq t u D σ H := h1 (u D) h2
theorem optN_non (o : Option Nat) : (optN o = .non) ↔ o = none := by cases o <;> simp [optN]
theorem optI_non (o : Option Int) : (optI o = .non) ↔ o = none := by cases o <;> simp [optI]
def sp_take_extended (A : Ad) : Sp := fun vs H Q _ => ∃ (p hl : Addr) (c : Ql35.Craft) (m t : Nat), vs = [.ref p, .int m, .int t] ∧ CraftAt A H p hl c ∧ ∀ H', Frm [p, hl] H H' → CraftAt A H' p hl (Ql35.extended c t m) → Q .non H'
theorem ok_Aircraft_take_extended (T : Txt K mg A) : FnOk P w K mg base CX0 9 A.f_Aircraft_take_extended A.d_Aircraft_take_extended ["self", "extended", "now"] (sp_take_extended A) := by
  refine T.fn_Aircraft_take_extended.ok sc_Aircraft_take_extended (fun vs H Q E h => ?_) (fun cdv A' outer s H vs Q E hr h => ?_)
  · obtain ⟨p, hl, c, m, t, rfl, _⟩ := h
    rfl
  · obtain ⟨p, hl, c, m, t, rfl, hc, q⟩ := h
    have nd := sc_Aircraft_take_extended.nd
    refine ⟨_, (pss_cons (ps_set (i := 3) nd rfl (Or.inl rfl) (pe_call (ok_name_in T) (hr.mono (by decide)) rfl T.mg_name_in T.fn_name_in.kp (b_name_in T) .nil pass0 (pa_cons (pv 1) pa_nil)))
      (pss_cons (ps_if (pt_cmpR op_notN (pv 3) pe_non (nomark _)) (pss_one (ps_fld (pv 0) (pv 3) rfl)) pss_nil)
      (pss_cons (ps_expr (pe_meth (pv 0) T.cl_Aircraft T.me_Aircraft_take_height (ok_Aircraft_take_height T) (hr.mono (by decide)) (b_Aircraft_take_height T) .nil pass0 (pa_cons (pe_call (ok_height_in T) (hr.mono (by decide)) rfl T.mg_height_in T.fn_height_in.kp (b_height_in T) .nil pass0 (pa_cons (pv 1) pa_nil)) pa_nil)))
      (pss_cons (ps_set (i := 4) nd rfl (Or.inl rfl) (pe_call (ok_half_in T) (hr.mono (by decide)) rfl T.mg_half_in T.fn_half_in.kp (b_half_in T) .nil pass0 (pa_cons (pv 1) (pa_cons (pv 2) pa_nil))))
      (pss_cons (ps_if (pt_cmpR op_notN (pv 4) pe_non (nomark _)) (pss_one (ps_expr (pe_meth (pv 0) T.cl_Aircraft T.me_Aircraft_take_half (ok_Aircraft_take_half T) (hr.mono (by decide)) (b_Aircraft_take_half T) .nil pass0 (pa_cons (pv 4) pa_nil)))) pss_nil)
      (pss_cons (ps_set (i := 5) nd rfl (Or.inl rfl) (pe_call (ok_speeds_in T) (hr.mono (by decide)) rfl T.mg_speeds_in T.fn_speeds_in.kp (b_speeds_in T) .nil pass0 (pa_cons (pv 1) pa_nil)))
      (pss_cons (ps_if (pt_cmpR op_notN (pv 5) pe_non (nomark _)) (pss_cons (ps_fld (pv 0) (pe_ix ix_tup (pv 5) pe_int (fun _ _ => rfl)) rfl)
      (pss_one (ps_fld (pv 0) (pe_ix ix_tup (pv 5) pe_int (fun _ _ => rfl)) rfl))) pss_nil)
      (pss_cons (ps_set (i := 6) nd rfl (Or.inl rfl) (pe_call (ok_climb_in T) (hr.mono (by decide)) rfl T.mg_climb_in T.fn_climb_in.kp (b_climb_in T) .nil pass0 (pa_cons (pv 1) pa_nil)))
      (pss_one (ps_if (pt_cmpR op_notN (pv 6) pe_non (nomark _)) (pss_one (ps_fld (pv 0) (pv 6) rfl)) pss_nil)))))))))), ?_⟩
    rw [extended_py] at q
    generalize hS : (fun (a b c d : Option V) => ([some (.ref p), some (.int (m : Nat)), some (.int (t : Nat)), a, b, c, d] : L2.St)) = S
    have eS : ∀ a b c d, S a b c d = [some (.ref p), some (.int (m : Nat)), some (.int (t : Nat)), a, b, c, d] := fun a b c d => by rw [← hS]
    have Fi : Frm [p, hl] H H := .refl _ _
    -- the name
    refine seqI (fun σ' H' => ∃ v, σ' = S (some v) none none none ∧ Same H H' ∧ NameAt H' v (nameOf m)) ?_ ?_
    · intro U hU
      simp only [rdA, rdB, Nat.reduceAdd, Nat.reduceSub, Nat.reduceLT, List.replicate]
      exact ⟨m, rfl, fun v H1 s1 nv => hU _ _ ⟨v, (eS ..).symm, s1, nv⟩⟩
    rintro σ1 H1 ⟨v, rfl, s1, nv⟩
    have fr1 : Frm [p, hl] H H1 := .of s1
    have hc1 := hc.same s1
    refine seqI (fun σ' H' => ∃ v, σ' = S v none none none ∧ Frm [p, hl] H H' ∧ CraftAt A H' p hl (setName c (nameOf m))) ?_ ?_
    · intro U hU
      rw [eS]
      obtain ⟨dx, nm, pl, ph, he, ho, hp, b⟩ := id hc1
      unfold craftO at hp
      cases hn : nameOf m with
      | none =>
        rw [hn] at nv hU
        cases (show v = .non from nv)
        simp only [rdA, rdB, Nat.reduceAdd, Nat.reduceSub, Nat.reduceLT, List.replicate]
        exact hU _ _ ⟨_, (eS ..).symm, fr1, hc1⟩
      | some l =>
        rw [hn] at nv hU
        obtain ⟨e, rfl, he', hl8⟩ := id nv
        have fu : Frm [p, hl] H1 (upd H1 p (craftO A dx hl (.ref e) pl ph { c with name := some l })) := .upd hp rfl (by simp)
        have pE := b.put (o' := craftO A dx hl (.ref e) pl ph { c with name := some l }) hp rfl
        simp only [rdA, rdB, Nat.reduceAdd, Nat.reduceSub, Nat.reduceLT, List.replicate, rdC, fd_Aircraft, tc_Aircraft T, hp]
        rw [if_pos (by simp)]
        exact hU _ _ ⟨_, (eS ..).symm, fr1.trans fu, ⟨dx, .ref e, pl, ph, he, ho, upd_same, nv.frm fu, pE.2⟩⟩
    rintro σ2 H2 ⟨v2, rfl, fr2, hc2⟩
    -- the height
    refine seqI (fun σ' H' => ∃ v, σ' = S v none none none ∧ Frm [p, hl] H H' ∧ CraftAt A H' p hl (setHeight (setName c (nameOf m)) (heightOf m))) ?_ ?_
    · intro U hU
      rw [eS]
      obtain ⟨dx, nm, pl, ph, he, ho, hp, b⟩ := id hc2
      unfold craftO at hp
      simp only [rdA, rdB, Nat.reduceAdd, Nat.reduceSub, Nat.reduceLT, List.replicate, rdC, fd_Aircraft, tc_Aircraft T, hp]
      refine ⟨m, rfl, fun H3 s3 => ⟨p, hl, _, _, rfl, hc2.same s3, fun H4 f4 c4 => hU _ _ ⟨_, (eS ..).symm, (fr2.trans (.of s3)).trans f4, c4⟩⟩⟩
    rintro σ3 H3 ⟨v3, rfl, fr3, hc3⟩
    -- the half
    refine seqI (fun σ' H' => ∃ v w, σ' = S v (some w) none none ∧ Frm [p, hl] H H' ∧ CraftAt A H' p hl (setHeight (setName c (nameOf m)) (heightOf m)) ∧ (if hasHalf m = true then ∃ a, w = .ref a ∧ HalfAt A H' a (decide (Ql35.bits 56 m 22 1 = 1)) ⟨t, Ql35.bits 56 m 23 17, Ql35.bits 56 m 40 17⟩ else w = .non)) ?_ ?_
    · intro U hU
      rw [eS]
      simp only [rdA, rdB, Nat.reduceAdd, Nat.reduceSub, Nat.reduceLT, List.replicate]
      refine ⟨m, t, rfl, fun hh => hU _ _ ⟨_, _, (eS ..).symm, fr3, hc3, ?_⟩, fun hh a H4 s4 ha => hU _ _ ⟨_, _, (eS ..).symm, fr3.trans (.of s4), hc3.same s4, ?_⟩⟩
      · rw [if_neg (by rw [hh]; exact Bool.false_ne_true)]
      · rw [if_pos hh]
        exact ⟨a, rfl, ha⟩
    rintro σ4 H4 ⟨v4, w4, rfl, fr4, hc4, hw⟩
    refine seqI (fun σ' H' => ∃ v w, σ' = S v w none none ∧ Frm [p, hl] H H' ∧ CraftAt A H' p hl (setHalf (setHeight (setName c (nameOf m)) (heightOf m)) t m)) ?_ ?_
    · intro U hU
      rw [eS]
      unfold setHalf at hU
      by_cases hh : hasHalf m = true
      · rw [if_pos hh] at hw hU
        obtain ⟨a, rfl, ha⟩ := hw
        obtain ⟨dx, nm, pl, ph, he, ho, hp, b⟩ := id hc4
        unfold craftO at hp
        simp only [rdA, rdB, Nat.reduceAdd, Nat.reduceSub, Nat.reduceLT, List.replicate, rdC, fd_Aircraft, tc_Aircraft T, hp]
        rw [if_pos (by simp)]
        exact ⟨p, hl, a, _, _, _, rfl, hc4, ha, fun H5 f5 c5 => hU _ _ ⟨_, _, (eS ..).symm, fr4.trans f5, c5⟩⟩
      · rw [if_neg hh] at hw hU
        subst hw
        simp only [rdA, rdB, Nat.reduceAdd, Nat.reduceSub, Nat.reduceLT, List.replicate]
        exact hU _ _ ⟨_, _, (eS ..).symm, fr4, hc4⟩
    rintro σ5 H5 ⟨v5, w5, rfl, fr5, hc5⟩
    generalize hcc : setHalf (setHeight (setName c (nameOf m)) (heightOf m)) t m = c5 at hc5 q
    -- the speeds
    refine seqI (fun σ' H' => ∃ v w u, σ' = S v w (some u) none ∧ Frm [p, hl] H H' ∧ CraftAt A H' p hl c5 ∧ (match speedOf m with | none => u = .non | some (e, n) => ∃ a, u = .ref a ∧ H' a = some (.tup [.int e, .int n]))) ?_ ?_
    · intro U hU
      rw [eS]
      simp only [rdA, rdB, Nat.reduceAdd, Nat.reduceSub, Nat.reduceLT, List.replicate]
      refine ⟨m, rfl, fun hh => hU _ _ ⟨_, _, _, (eS ..).symm, fr5, hc5, ?_⟩, fun e n hh a H6 s6 ha => hU _ _ ⟨_, _, _, (eS ..).symm, fr5.trans (.of s6), hc5.same s6, ?_⟩⟩
      · rw [hh]
      · rw [hh]
        exact ⟨a, rfl, ha⟩
    rintro σ6 H6 ⟨v6, w6, u6, rfl, fr6, hc6, hu⟩
    refine seqI (fun σ' H' => ∃ v w u, σ' = S v w u none ∧ Frm [p, hl] H H' ∧ CraftAt A H' p hl (setSpeed c5 (speedOf m))) ?_ ?_
    · intro U hU
      rw [eS]
      cases hs : speedOf m with
      | none =>
        rw [hs] at hu hU
        cases (show u6 = .non from hu)
        simp only [rdA, rdB, Nat.reduceAdd, Nat.reduceSub, Nat.reduceLT, List.replicate]
        exact hU _ _ ⟨_, _, _, (eS ..).symm, fr6, hc6⟩
      | some en =>
        obtain ⟨e, n⟩ := en
        rw [hs] at hu hU
        obtain ⟨a, rfl, ha⟩ := hu
        obtain ⟨dx, nm, pl, ph, he, ho, hp, b⟩ := id hc6
        unfold craftO at hp
        have hna : a ≠ p := ne_of ha hp (by intro z; cases z)
        have ha' : ∀ o, upd H6 p o a = some (.tup [.int e, .int n]) := fun o => by rw [upd_ne hna]; exact ha
        have fu : Frm [p, hl] H6 (upd H6 p (craftO A dx hl nm pl ph { c5 with speed := some (e, n) })) := .upd hp rfl (by simp)
        have pE := b.put (o' := craftO A dx hl nm pl ph { c5 with speed := some (e, n) }) hp rfl
        simp only [rdA, rdB, Nat.reduceAdd, Nat.reduceSub, Nat.reduceLT, List.replicate, rdC, fd_Aircraft, tc_Aircraft T, hp]
        rw [if_pos (by simp)]
        refine ⟨a, _, _, .int e, rfl, rfl, SqT.of ha, rfl, ?_⟩
        simp only [rdA, rdB, Nat.reduceAdd, Nat.reduceSub, Nat.reduceLT, List.replicate, rdC, fd_Aircraft, tc_Aircraft T, hp]
        refine ⟨a, _, _, .int n, rfl, rfl, SqT.of (ha' _), rfl, ?_⟩
        simp only [rdA, rdB, Nat.reduceAdd, Nat.reduceSub, Nat.reduceLT, List.replicate, rdC, fd_Aircraft, tc_Aircraft T, upd_same, upd_upd]
        exact hU _ _ ⟨_, _, _, (eS ..).symm, fr6.trans fu, ⟨dx, nm, pl, ph, he, ho, upd_same, pE⟩⟩
    rintro σ7 H7 ⟨v7, w7, u7, rfl, fr7, hc7⟩
    generalize hcd : setSpeed c5 (speedOf m) = c7 at hc7 q
    -- the climb
    refine seqI (fun σ' H' => ∃ v w u, σ' = S v w u (some (optI (climbOf m))) ∧ Frm [p, hl] H H' ∧ CraftAt A H' p hl c7) ?_ ?_
    · intro U hU
      rw [eS]
      simp only [rdA, rdB, Nat.reduceAdd, Nat.reduceSub, Nat.reduceLT, List.replicate]
      exact ⟨m, rfl, hU _ _ ⟨_, _, _, (eS ..).symm, fr7, hc7⟩⟩
    rintro σ8 H8 ⟨v8, w8, u8, rfl, fr8, hc8⟩
    rw [eS]
    cases hs : climbOf m with
    | none =>
      rw [hs] at q
      simp only [rdA, rdB, Nat.reduceAdd, Nat.reduceSub, Nat.reduceLT, List.replicate, optI]
      exact q H8 fr8 hc8
    | some z =>
      rw [hs] at q
      obtain ⟨dx, nm, pl, ph, he, ho, hp, b⟩ := id hc8
      unfold craftO at hp
      have fu : Frm [p, hl] H8 (upd H8 p (craftO A dx hl nm pl ph { c7 with climb := some z })) := .upd hp rfl (by simp)
      have pE := b.put (o' := craftO A dx hl nm pl ph { c7 with climb := some z }) hp rfl
      simp only [rdA, rdB, Nat.reduceAdd, Nat.reduceSub, Nat.reduceLT, List.replicate, rdC, fd_Aircraft, tc_Aircraft T, hp, optI]
      rw [if_pos (by simp)]
      exact q _ (fr8.trans fu) ⟨dx, nm, pl, ph, he, ho, upd_same, pE⟩
end
end Ph

namespace Ph
open PySem L2
section
variable {P : Program} {w : World} {K : PySem.W.Frag} {mg : Str → Option Value} {base : Heap} {A : Ad}
theorem pe_fldK {X : Cx} {K : PySem.W.Frag} {e : Expr} {f : Str} {pos : Pos} {ta : TE} (k : X.K = K) (he : PE X e ta) (hb : attributeBase e f X.env (eval e X.env) = eval e X.env) : PE X (.Attribute e f pos) (tFld K ta f) := k ▸ pe_fld he hb
theorem pe_lcX {X : Cx} {elt tg iter : Expr} {ifs : List Expr} {scope : Scope} {own : List (Str × Nat)} {pos : Pos} {wi : TI} {g : TG} {tt : TT} {te : TE} (c : X.calm = true) (n : X.N.Nodup) (i : PI X tg iter wi) (o : BlkOk X.N X.env.scope scope own)
    (fg : ∀ s H C cl fp, PG (X.blk s H scope (compEnvC scope cl C X.env) fp) tg g) (ft : ∀ s H C cl fp, PTs (X.blk s H scope (compEnvC scope cl C X.env) fp) ifs tt) (fe : ∀ s H C cl fp, PE (X.blk s H scope (compEnvC scope cl C X.env) fp) elt te)
    (fs : ∀ x, foldedSetIterable iter X.env x = pure x) : PE X (.ListComp elt [⟨tg, iter, ifs, 0⟩] scope pos) (tLc wi g tt te (own.map (·.2))) := pe_lc c n i o fg ft fe fs
theorem ps_setLcX {X : Cx} {i : Nat} {y : Str} {py : Pos} {elt tg iter : Expr} {ifs : List Expr} {scope : Scope} {own : List (Str × Nat)} {pos spos : Pos} {wi : TI} {g : TG} {tt : TT} {te : TE} (c : X.calm = true) (n : X.N.Nodup) (hy : X.N[i]? = some y) (hyl : X.env.scope.names.lookup y = some .local)
    (sw : swapsWith (.ListComp elt [⟨tg, iter, ifs, 0⟩] scope pos) (some (.Name y py)) spos.line X.env = pure true) (it : PI X tg iter wi) (o : BlkOk X.N X.env.scope scope own)
    (fg : ∀ s H C cl fp, PG (X.blk s H scope (compEnvC scope cl C X.env) fp) tg g) (ft : ∀ s H C cl fp, PTs (X.blk s H scope (compEnvC scope cl C X.env) fp) ifs tt) (fe : ∀ s H C cl fp, PE (X.blk s H scope (compEnvC scope cl C X.env) fp) elt te)
    (fs : ∀ x, foldedSetIterable iter X.env x = pure x) : PS X (.Assign [.Name y py] (.ListComp elt [⟨tg, iter, ifs, 0⟩] scope pos) spos) (tAsg (tLc wi g tt te (own.map (·.2))) (gName i)) := ps_setLc c n hy hyl sw it o fg ft fe fs
/-- a list comprehension that takes each of a list's items to another -/
theorem lc_map {K : PySem.W.Frag} {a : Addr} (xs : List V) (fv : V → V) {i : Nat} {te : TE} {σ : L2.St} {H : Hp} {D : Addr} {Qd : Hp → Prop} (hD : H D = none) (hs : SqL K H a xs) (hl : xs.length < sizeLine)
    (ht : ∀ y ∈ xs, ∀ (H' : Hp) (R : VK), R (fv y) H' → te ((σ.set i none).set i (some y)) H' R) (hd : Qd (upd H D (.lst (xs.map fv)))) :
    ∃ W : Nat → Nat → Hp → Prop, (∃ m, W 0 m (upd H D (.lst []))) ∧ ∀ j m H, W j m H →
      ((Itl K a).stop j H ∧ Qd H) ∨ ((Itl K a).go j H ∧ ∃ Nx : Hp → Prop, (∀ H', Nx H' → ∃ m', m' < m ∧ W (j + 1) m' H') ∧ ∀ x H', (Itl K a).yld j H x H' → gName i x (wipe σ [i]) H' fun σ2 H2 => wipe σ2 [i] = wipe σ [i] ∧ tYes σ2 H2 fun b H3 =>
        if b = true then te σ2 H3 fun y H4 => ∃ acc, H4 D = some (.lst acc) ∧ acc.length < sizeLine ∧ Nx (upd H4 D (.lst (acc ++ [y]))) else Nx H3) := by
  refine lc_list (K := K) (a := a) (xs := xs) (fun j H2 => H2 = upd H D (.lst ((xs.take j).map fv))) rfl (fun j H2 _ e => ?_) (fun j x H2 hx e => ?_) (fun H2 e => ?_)
  · rw [e]; exact (Same.new hD).seq hs
  · subst e
    have et : xs.take (j + 1) = xs.take j ++ [x] := by
      rw [List.take_add_one, hx]
      rfl
    have mem := List.mem_of_getElem? hx
    show wipe ((wipe σ [i]).set i (some x)) [i] = wipe σ [i] ∧ _
    have ew : ∀ τ : L2.St, wipe τ [i] = τ.set i none := fun τ => rfl
    rw [ew, ew]
    refine ⟨by rw [List.set_set, List.set_set], ?_⟩
    unfold tYes
    dsimp only
    rw [if_pos rfl]
    refine ht x mem _ _ ⟨_, upd_same, ?_, ?_⟩
    · rw [List.length_map]
      have h2 := List.length_take_le' j xs
      omega
    · rw [upd_upd, et, List.map_append]
      rfl
  · subst e
    rw [List.take_length]
    exact hd
theorem tLc_list {K : PySem.W.Frag} {tl : TE} {g : TG} {tt : TT} {te : TE} {vs : List Nat} {σ : L2.St} {H : Hp} {Q : VK} (a : Addr) (xs : List V) (ht : ∀ R : V → Hp → Prop, R (.ref a) H → tl σ H R) (hs : SqL K H a xs)
    (h : ∀ D, H D = none → ∃ W : Nat → Nat → Hp → Prop, (∃ m, W 0 m (upd H D (.lst []))) ∧ ∀ i m H, W i m H →
      ((Itl K a).stop i H ∧ Q (.ref D) H) ∨ ((Itl K a).go i H ∧ ∃ Nx : Hp → Prop, (∀ H', Nx H' → ∃ m', m' < m ∧ W (i + 1) m' H') ∧ ∀ x H', (Itl K a).yld i H x H' → g x (wipe σ vs) H' fun σ2 H2 => wipe σ2 vs = wipe σ vs ∧ tt σ2 H2 fun b H3 =>
        if b = true then te σ2 H3 fun y H4 => ∃ acc, H4 D = some (.lst acc) ∧ acc.length < sizeLine ∧ Nx (upd H4 D (.lst (acc ++ [y]))) else Nx H3)) : tLc (iList K tl) g tt te vs σ H Q := ht _ ⟨a, rfl, ⟨xs, hs⟩, h⟩
def unk : V → V
  | .non => .int (-2147483648)
  | v => v
theorem unk_I (o : Option Int) : unk (optI o) = .int (o.getD Ql35.NONE) := by cases o <;> rfl
theorem unk_N (o : Option Nat) : unk (optN o) = .int ((o.map fun n => (n : Int)).getD Ql35.NONE) := by cases o <;> rfl
def sp_numbers_at (A : Ad) : Sp := fun vs H Q _ => ∃ (p hl : Addr) (c : Ql35.Craft) (t : Nat), vs = [.ref p, .int t] ∧ CraftAt A H p hl c ∧ c.heard ≤ t ∧ ∀ l H', Same H H' → H' l = some (.lst ((Ql35.told t c).map V.int)) → Q (.ref l) H'
theorem ok_Aircraft_numbers_at (T : Txt K mg A) : FnOk P w K mg base CX0 1 A.f_Aircraft_numbers_at A.d_Aircraft_numbers_at ["self", "now"] (sp_numbers_at A) := by
  refine T.fn_Aircraft_numbers_at.ok sc_Aircraft_numbers_at (fun vs H Q E h => ?_) (fun cdv A' outer s H vs Q E hr h => ?_)
  · obtain ⟨p, hl, c, t, rfl, _⟩ := h
    rfl
  · obtain ⟨p, hl, c, t, rfl, hc, hle, q⟩ := h
    have nd := sc_Aircraft_numbers_at.nd
    refine ⟨_, (pss_cons (ps_set (i := 2) nd rfl (Or.inl rfl) (pe_ifExp (pt_cmpR op_isN (pe_fld (pv 0) rfl) pe_non (nomark _)) pe_non (pe_fld (pe_fld (pv 0) rfl) rfl)))
      (pss_cons (ps_set (i := 3) nd rfl (Or.inl rfl) (pe_ifExp (pt_cmpR op_isN (pe_fld (pv 0) rfl) pe_non (nomark _)) pe_non (pe_fld (pe_fld (pv 0) rfl) rfl)))
      (pss_cons (ps_set (i := 4) nd rfl (Or.inl rfl) (pe_lst (pa_cons (pe_fld (pv 0) rfl) (pa_cons (pe_fld (pv 0) rfl) (pa_cons (pv 2) (pa_cons (pv 3) (pa_cons (pe_fld (pv 0) rfl) (pa_cons (pe_fld (pv 0) rfl) (pa_cons (pe_fld (pv 0) rfl) (pa_cons (pe_fld (pv 0) rfl) (pa_cons (pe_op op_sub (pv 1) (pe_fld (pv 0) rfl)) pa_nil)))))))))))
      (pss_one (ps_ret (pe_lcX rfl nd (pi_list (pv 4)) (own := [("number", 5)]) (blkOk_by (by kernel_rfl)) (fun _ _ _ _ _ => pg_name (i := 5) nd rfl (Or.inl rfl)) (fun _ _ _ _ _ => pts_nil) (fun _ _ _ _ _ => (pe_ifExp (pt_cmpR op_isN (pv 5) pe_non (nomark _)) (pe_gI rfl T.gi_UNKNOWN) (pv 5))) (fun _ => rfl))))))), ?_⟩
    obtain ⟨dx, nm, pl, ph, he, ho, hp, b⟩ := id hc
    unfold craftO at hp
    have fin : ∀ (la lo : V), (unk la = .int ((c.place.map fun p => p.2.1).getD Ql35.NONE)) → (unk lo = .int ((c.place.map fun p => p.2.2).getD Ql35.NONE)) →
        ∀ D1, H D1 = none → ∀ D2, upd H D1 (.lst [.int (c.addr : Nat), optI c.height, la, lo, optI (c.speed.map (·.1)), optI (c.speed.map (·.2)), optI c.climb, optN c.code, .int ((t : Int) - (c.heard : Nat))]) D2 = none →
        Q (.ref D2) (upd (upd H D1 (.lst [.int (c.addr : Nat), optI c.height, la, lo, optI (c.speed.map (·.1)), optI (c.speed.map (·.2)), optI c.climb, optN c.code, .int ((t : Int) - (c.heard : Nat))])) D2 (.lst ([.int (c.addr : Nat), optI c.height, la, lo, optI (c.speed.map (·.1)), optI (c.speed.map (·.2)), optI c.climb, optN c.code, .int ((t : Int) - (c.heard : Nat))].map unk))) := by
      intro la lo h1 h2 D1 n1 D2 n2
      refine q D2 _ ((Same.new n1).trans (Same.new n2)) ?_
      rw [upd_same]
      congr 2
      simp only [List.map_cons, List.map_nil, unk_I, unk_N, h1, h2, Ql35.told]
      have e1 : ∀ i : Int, unk (.int i) = .int i := fun _ => rfl
      have e2 : ((t : Int) - (c.heard : Nat)) = ((t - c.heard : Nat) : Int) := by omega
      rw [e1, e1, e2]
    refine seqI (fun σ' H' => ∃ la, σ' = [some (.ref p), some (.int (t : Nat)), some la, none, none, none] ∧ H' = H ∧ unk la = .int ((c.place.map fun p => p.2.1).getD Ql35.NONE)) ?_ ?_
    · intro U hU
      have hv := b.2.1
      cases hx : c.place with
      | none =>
        rw [hx] at hv hU
        cases (show pl = .non from hv)
        simp only [rdA, rdB, Nat.reduceAdd, Nat.reduceSub, Nat.reduceLT, List.replicate, rdC, fd_Aircraft, tc_Aircraft T, hp]
        exact hU _ _ ⟨_, rfl, rfl, rfl⟩
      | some pp =>
        obtain ⟨u, la, lo⟩ := pp
        rw [hx] at hv hU
        obtain ⟨e, rfl, ⟨de, he'⟩, rfl⟩ := hv
        simp only [rdA, rdB, Nat.reduceAdd, Nat.reduceSub, Nat.reduceLT, List.replicate, rdC, fd_Aircraft, tc_Aircraft T, rdC, fd_Place, tc_Place T, hp, he']
        rw [if_neg (by simp)]
        exact hU _ _ ⟨_, rfl, rfl, rfl⟩
    rintro σ1 H1 ⟨la, rfl, rfl, h1⟩
    refine seqI (fun σ' H' => ∃ lo, σ' = [some (.ref p), some (.int (t : Nat)), some la, some lo, none, none] ∧ H' = H1 ∧ unk lo = .int ((c.place.map fun p => p.2.2).getD Ql35.NONE)) ?_ ?_
    · intro U hU
      have hv := b.2.1
      cases hx : c.place with
      | none =>
        rw [hx] at hv hU
        cases (show pl = .non from hv)
        simp only [rdA, rdB, Nat.reduceAdd, Nat.reduceSub, Nat.reduceLT, List.replicate, rdC, fd_Aircraft, tc_Aircraft T, hp]
        exact hU _ _ ⟨_, rfl, rfl, rfl⟩
      | some pp =>
        obtain ⟨u, la, lo⟩ := pp
        rw [hx] at hv hU
        obtain ⟨e, rfl, ⟨de, he'⟩, rfl⟩ := hv
        simp only [rdA, rdB, Nat.reduceAdd, Nat.reduceSub, Nat.reduceLT, List.replicate, rdC, fd_Aircraft, tc_Aircraft T, rdC, fd_Place, tc_Place T, hp, he']
        rw [if_neg (by simp)]
        exact hU _ _ ⟨_, rfl, rfl, rfl⟩
    rintro σ2 H2 ⟨lo, rfl, rfl, h2⟩
    simp only [rdA, rdB, Nat.reduceAdd, Nat.reduceSub, Nat.reduceLT, List.replicate, tLst, rdC, fd_Aircraft, tc_Aircraft T, hp]
    refine ⟨by decide, fun D1 n1 => ?_⟩
    have fin' := fin la lo h1 h2 D1 n1
    generalize hx : ([.int (c.addr : Nat), optI c.height, la, lo, optI (c.speed.map (·.1)), optI (c.speed.map (·.2)), optI c.climb, optN c.code, .int ((t : Int) - (c.heard : Nat))] : List V) = xs at fin' ⊢
    have hlen : xs.length = 9 := by rw [← hx]; rfl
    refine tLc_list D1 xs (fun R hR => by simp only [rdA, rdB, Nat.reduceAdd, Nat.reduceSub, Nat.reduceLT, List.replicate]; exact hR) (SqL.of upd_same) (fun D2 n2 => lc_map xs unk n2 (SqL.of upd_same) (by rw [hlen]; decide) (fun y hy H' R hR => ?_) (fin' D2 n2))
    simp only [rdA, rdB, Nat.reduceAdd, Nat.reduceSub, Nat.reduceLT, List.replicate]
    cases y with
    | non => rw [if_pos (by simp)]; exact hR
    | _ => rw [if_neg (by simp)]; exact hR
end
end Ph

namespace Ph
open PySem L2
section
variable {P : Program} {w : World} {K : PySem.W.Frag} {mg : Str → Option Value} {base : Heap} {A : Ad}
/-! ### the receiver: it begins -/
def sp_Receiver_init (A : Ad) : Sp := fun vs H Q _ => ∃ (r dx : Addr), vs = [.ref r] ∧ H r = some (.ins A.Receiver dx []) ∧ ∀ kl H', H kl = none → (∀ b o, H b = some o → b ≠ r → H' b = some o) → Rc A H' r Ql35.empty kl [] → Q .non H'
theorem ok_Receiver___init__ (T : Txt K mg A) : FnOk P w K mg base CX0 1 A.f_Receiver___init__ A.d_Receiver___init__ ["self"] (sp_Receiver_init A) := by
  refine T.fn_Receiver___init__.ok sc_Receiver___init__ (fun vs H Q E h => ?_) (fun cdv A' outer s H vs Q E hr h => ?_)
  · obtain ⟨r, dx, rfl, _⟩ := h
    rfl
  · obtain ⟨r, dx, rfl, hp, q⟩ := h
    have nd := sc_Receiver___init__.nd
    refine ⟨_, (pss_cons (ps_fld (pv 0) pe_int rfl)
      (pss_one (ps_fld (pv 0) (pe_lst pa_nil) rfl))), ?_⟩
    simp only [rdA, rdB, Nat.reduceAdd, Nat.reduceSub, Nat.reduceLT, List.replicate, tLst, rdC, fd_Receiver, tc_Receiver T, in_Receiver_now, in_Receiver_known, hp, upd_same, upd_upd]
    refine ⟨by decide, fun kl hn => ?_⟩
    have np : kl ≠ r := by
      rintro rfl
      rw [upd_same] at hn
      cases hn
    have hn' : H kl = none := by
      rw [upd_ne np] at hn
      exact hn
    refine ⟨_, dx, _, (by rw [upd_ne np.symm, upd_same]), T.cl_Receiver, T.na_Receiver_known, by show 1 < 1000; decide, ?_⟩
    rw [in_Receiver_known]
    refine q kl _ hn' (fun b o e hb => ?_) ⟨⟨dx, upd_same⟩, by rw [upd_ne np, upd_same]; rfl, by simp, rfl, List.nodup_nil, List.nodup_nil, by simp, by simp⟩
    rw [upd_ne hb, upd_ne (ne_of_none e hn'), upd_ne hb]
    exact e
def sp_begin (A : Ad) : Sp := fun vs H Q _ => ∃ (r kl : Addr) (s : Ql35.St) (zs : Known), vs = [.ref r] ∧ Rc A H r s kl zs ∧ ∀ kl' H', Rc A H' r Ql35.empty kl' [] → Stp H H' r kl kl' zs [] → Q .non H'
theorem ok_Receiver_begin (T : Txt K mg A) : FnOk P w K mg base CX0 1 A.f_Receiver_begin A.d_Receiver_begin ["self"] (sp_begin A) := by
  refine T.fn_Receiver_begin.ok sc_Receiver_begin (fun vs H Q E h => ?_) (fun cdv A' outer s H vs Q E hr h => ?_)
  · obtain ⟨r, kl, s, zs, rfl, _⟩ := h
    rfl
  · obtain ⟨r, kl, s, zs, rfl, x, q⟩ := h
    obtain ⟨dx, ob⟩ := x.ob
    have nd := sc_Receiver_begin.nd
    refine ⟨_, (pss_cons (ps_fld (pv 0) pe_int rfl)
      (pss_one (ps_fld (pv 0) (pe_lst pa_nil) rfl))), ?_⟩
    simp only [rdA, rdB, Nat.reduceAdd, Nat.reduceSub, Nat.reduceLT, List.replicate, tLst, rdC, fd_Receiver, tc_Receiver T, ob, upd_same, upd_upd]
    refine ⟨by decide, fun D hD => ?_⟩
    have np : D ≠ r := by
      rintro rfl
      rw [upd_same] at hD
      cases hD
    have hD' : H D = none := by
      rw [upd_ne np] at hD
      exact hD
    refine ⟨_, dx, _, (by rw [upd_ne np.symm, upd_same]), T.cl_Receiver, T.na_Receiver_known, ln_Receiver, ?_⟩
    rw [pt_Receiver_known]
    have f := ((Frm.upd (S := [r]) (o' := .ins A.Receiver dx (fl_Receiver (.int 0) (.ref kl))) ob rfl (by simp)).trans (.new (o' := .lst []) hD)).trans (.upd (p := r) (o' := .ins A.Receiver dx (fl_Receiver (.int 0) (.ref D))) (by rw [upd_ne np.symm, upd_same]) rfl (by simp))
    obtain ⟨a, b⟩ := x.renew (zs' := []) (now := 0) f ⟨dx, upd_same⟩ (by rw [upd_ne np, upd_same]; rfl) hD' (List.nil_sublist _)
    exact q D _ a b
def sp_how_many (A : Ad) : Sp := fun vs H Q _ => ∃ (r kl : Addr) (s : Ql35.St) (zs : Known), vs = [.ref r] ∧ Rc A H r s kl zs ∧ Q (.int (s.crafts.length : Nat)) H
theorem ok_Receiver_how_many (T : Txt K mg A) : FnOk P w K mg base CX0 1 A.f_Receiver_how_many A.d_Receiver_how_many ["self"] (sp_how_many A) := by
  refine T.fn_Receiver_how_many.ok sc_Receiver_how_many (fun vs H Q E h => ?_) (fun cdv A' outer s H vs Q E hr h => ?_)
  · obtain ⟨r, kl, s, zs, rfl, _⟩ := h
    rfl
  · obtain ⟨r, kl, s, zs, rfl, x, q⟩ := h
    obtain ⟨dx, ob⟩ := x.ob
    have nd := sc_Receiver_how_many.nd
    refine ⟨_, (pss_one (ps_ret (pe_callB call_len_seq (by rfl) T.nb_len bt_len (pa_cons (pe_fld (pv 0) rfl) pa_nil)))), ?_⟩
    simp only [rdA, rdB, Nat.reduceAdd, Nat.reduceSub, Nat.reduceLT, List.replicate, rdC, fd_Receiver, tc_Receiver T, ob]
    refine ⟨_, .inl (SqL.of x.kn), ?_⟩
    rw [← x.st, List.length_map] at q
    rw [List.length_map]
    exact q
def sp_set_time (A : Ad) : Sp := fun vs H Q _ => ∃ (r kl : Addr) (s : Ql35.St) (zs : Known) (t : Nat), vs = [.ref r, .int t] ∧ Rc A H r s kl zs ∧ ∀ kl' zs' H', Rc A H' r (expire s t) kl' zs' → Stp H H' r kl kl' zs zs' → Q .non H'
theorem ok_Receiver_set_time (T : Txt K mg A) : FnOk P w K mg base CX0 1 A.f_Receiver_set_time A.d_Receiver_set_time ["self", "t"] (sp_set_time A) := by
  refine T.fn_Receiver_set_time.ok sc_Receiver_set_time (fun vs H Q E h => ?_) (fun cdv A' outer s H vs Q E hr h => ?_)
  · obtain ⟨r, kl, s, zs, t, rfl, _⟩ := h
    rfl
  · obtain ⟨r, kl, s, zs, t, rfl, x, q⟩ := h
    obtain ⟨dx, ob⟩ := x.ob
    have nd := sc_Receiver_set_time.nd
    refine ⟨_, (pss_cons (ps_fld (pv 0) (pv 1) rfl)
      (pss_one (ps_fld (pv 0) (pe_lcX rfl nd (pi_list (pe_fld (pv 0) rfl)) (own := [("aircraft", 2)]) (blkOk_by (by kernel_rfl)) (fun _ _ _ _ _ => pg_name (i := 2) nd rfl (Or.inl rfl)) (fun _ _ _ _ _ => (pts_one (pt_cmpR op_le (pe_op op_sub (pv 1) (pe_fldK (K := K) rfl (pv 2) rfl)) (pe_gI rfl T.gi_LONGEST_SILENCE) (nomark _)))) (fun _ _ _ _ _ => (pv 2)) (fun _ => rfl)) rfl))), ?_⟩
    simp only [rdA, rdB, Nat.reduceAdd, Nat.reduceSub, Nat.reduceLT, List.replicate, rdC, fd_Receiver, tc_Receiver T, ob, upd_same, upd_upd]
    have ap := x.apart
    have f1 : Frm [r] H (upd H r (.ins A.Receiver dx (fl_Receiver (.int (t : Nat)) (.ref kl)))) := .upd ob rfl (by simp)
    have kn1 : upd H r (.ins A.Receiver dx (fl_Receiver (.int (t : Nat)) (.ref kl))) kl = some (.lst (zs.map fun z => V.ref z.1)) := by
      rw [upd_ne ap.1.symm]
      exact x.kn
    have hle : zs.length < sizeLine := small1000 (by have := x.le; omega)
    refine tLc_list kl (zs.map fun z => V.ref z.1) (fun R hR => by simp only [rdA, rdB, Nat.reduceAdd, Nat.reduceSub, Nat.reduceLT, List.replicate, rdC, fd_Receiver, tc_Receiver T, upd_same]; exact hR) (SqL.of kn1)
      (fun D hD => lc_keep zs (fun z => V.ref z.1) (fun z => decide (t ≤ z.2.2.heard + Ql35.LOST)) (by show 2 < 3; decide) hD (SqL.of kn1) hle (fun z hz H' R s' hR => ?_) ?_)
    · obtain ⟨dy, nm, pl, ph, he, ho, a, b⟩ := x.cr z hz
      unfold craftO at a
      have a' := s' _ _ (f1 _ _ a (.inr (by simpa using (ap.2 z hz).1)))
      simp only [rdA, rdB, Nat.reduceAdd, Nat.reduceSub, Nat.reduceLT, List.replicate, rdC, fd_Aircraft, tc_Aircraft T, a']
      have e : decide (((t : Nat) : Int) - ((z.2.2.heard : Nat) : Int) ≤ 300000) = decide (t ≤ z.2.2.heard + Ql35.LOST) := decide_eq_decide.mpr (by have : Ql35.LOST = 300000 := rfl; omega)
      rw [e]
      exact hR
    · have np : D ≠ r := by
        rintro rfl
        rw [upd_same] at hD
        cases hD
      have hD' : H D = none := by
        rw [upd_ne np] at hD
        exact hD
      refine ⟨_, dx, _, (by rw [upd_ne np.symm, upd_same]), T.cl_Receiver, T.na_Receiver_known, ln_Receiver, ?_⟩
      rw [pt_Receiver_known]
      have f := (f1.trans (.new (o' := .lst ((zs.filter fun z => decide (t ≤ z.2.2.heard + Ql35.LOST)).map fun z => V.ref z.1)) hD)).trans (.upd (p := r) (o' := .ins A.Receiver dx (fl_Receiver (.int (t : Nat)) (.ref D))) (by rw [upd_ne np.symm, upd_same]) rfl (by simp))
      obtain ⟨a, b⟩ := x.renew (zs' := zs.filter fun z => decide (t ≤ z.2.2.heard + Ql35.LOST)) (now := t) f ⟨dx, upd_same⟩ (by rw [upd_ne np, upd_same]) hD' List.filter_sublist
      have e : expire s t = ⟨t, (zs.filter fun z => decide (t ≤ z.2.2.heard + Ql35.LOST)).map (·.2.2)⟩ := by
        unfold expire
        rw [← x.st, List.filter_map]
        rfl
      rw [e] at q
      exact q D _ _ a b
end
end Ph

namespace Ph
open PySem L2
section
variable {P : Program} {w : World} {K : PySem.W.Frag} {mg : Str → Option Value} {base : Heap} {A : Ad}
theorem for_enum {K : PySem.W.Frag} {a : Addr} {xs : List V} {g : TG} {tb : TS} {D : Ends} {σ : L2.St} {H : Hp} (Pv : Nat → L2.St → Hp → Prop) (h0 : Pv 0 σ H) (hl : ∀ i σ H, i ≤ xs.length → Pv i σ H → SqL K H a xs)
    (hs : ∀ i x σ H T, xs[i]? = some x → Pv i σ H → H T = none → g (.ref T) σ (upd H T (.tup [.int (i : Nat), x])) fun σ2 H2 => tb { D with nx := Pv (i + 1), ct := Pv (i + 1), bk := D.nx } σ2 H2) (hd : ∀ σ H, Pv xs.length σ H → D.nx σ H) :
    ∃ W : Nat → Nat → L2.St → Hp → Prop, (∃ m, W 0 m σ H) ∧ ∀ i m σ H, W i m σ H →
      ((Ite K a).stop i H ∧ D.nx σ H) ∨ ((Ite K a).go i H ∧ ∃ N : L2.St → Hp → Prop, (∀ σ' H', N σ' H' → ∃ m', m' < m ∧ W (i + 1) m' σ' H') ∧ ∀ x H', (Ite K a).yld i H x H' → g x σ H' fun σ2 H2 => tb { D with nx := N, ct := N, bk := D.nx } σ2 H2) := by
  refine ⟨fun i m σ H => m = xs.length - i ∧ i ≤ xs.length ∧ Pv i σ H, ⟨xs.length, by simp, Nat.zero_le _, h0⟩, ?_⟩
  rintro i m σ H ⟨rfl, hi, p⟩
  have q := hl i σ H hi p
  by_cases hlt : i < xs.length
  · refine .inr ⟨⟨xs, xs[i], q, by simp [hlt]⟩, Pv (i + 1), fun σ' H' p' => ⟨xs.length - (i + 1), by omega, rfl, hlt, p'⟩, fun x H' y => ?_⟩
    obtain ⟨T, z, rfl, hT, rfl, hz⟩ := y
    exact hs i z σ H T (hz xs q) p hT
  · have e : i = xs.length := by omega
    subst e
    exact .inl ⟨⟨xs, q, Nat.le_refl _⟩, hd σ H p⟩
theorem lp_enum {K : PySem.W.Frag} {ta : TA} {g : TG} {tb : TS} {D : Ends} {σ : L2.St} {H : Hp} (a : Addr) (xs : List V) (ht : ∀ R : List V → Hp → Prop, R [.ref a] H → ta σ H R) (hs : SqL K H a xs)
    (h : ∃ W : Nat → Nat → L2.St → Hp → Prop, (∃ m, W 0 m σ H) ∧ ∀ i m σ H, W i m σ H →
      ((Ite K a).stop i H ∧ D.nx σ H) ∨ ((Ite K a).go i H ∧ ∃ N : L2.St → Hp → Prop, (∀ σ' H', N σ' H' → ∃ m', m' < m ∧ W (i + 1) m' σ' H') ∧ ∀ x H', (Ite K a).yld i H x H' → g x σ H' fun σ2 H2 => tb { D with nx := N, ct := N, bk := D.nx } σ2 H2)) :
    tFor (iEnum K ta) g tb D σ H := ht _ ⟨a, xs, rfl, hs, h⟩
abbrev hasAddr (a : Nat) (z : Addr × Addr × Ql35.Craft) : Bool := z.2.2.addr == a
def spotOf (zs : Known) (a : Nat) : Int := match zs.findIdx? (hasAddr a) with
  | some i => i
  | none => -1
def sp_spot_of (A : Ad) : Sp := fun vs H Q _ => ∃ (r kl : Addr) (s : Ql35.St) (zs : Known) (a : Nat), vs = [.ref r, .int a] ∧ Rc A H r s kl zs ∧ ∀ H', Same H H' → Q (.int (spotOf zs a)) H'
theorem ok_Receiver_spot_of (T : Txt K mg A) : FnOk P w K mg base CX0 1 A.f_Receiver_spot_of A.d_Receiver_spot_of ["self", "address"] (sp_spot_of A) := by
  refine T.fn_Receiver_spot_of.ok sc_Receiver_spot_of (fun vs H Q E h => ?_) (fun cdv A' outer s H vs Q E hr h => ?_)
  · obtain ⟨r, kl, s, zs, a, rfl, _⟩ := h
    rfl
  · obtain ⟨r, kl, s, zs, a, rfl, x, q⟩ := h
    obtain ⟨dx, ob⟩ := x.ob
    have nd := sc_Receiver_spot_of.nd
    refine ⟨_, (pss_cons (ps_for PassesOwn.never rfl (pi_enum rfl T.nb_enumerate (pa_cons (pe_fld (pv 0) rfl) pa_nil)) (pg_tup rfl (pgs_cons (pg_name (i := 2) nd rfl (Or.inl rfl)) (pgs_cons (pg_name (i := 3) nd rfl (Or.inl rfl)) pgs_nil))) (pss_one (ps_if (pt_cmpR op_eq (pe_fld (pv 3) rfl) (pv 1) (nomark _)) (pss_one (ps_ret (pv 2))) pss_nil)))
      (pss_one (ps_ret (pe_gI rfl T.gi_NOBODY)))), ?_⟩
    simp only [rdA, rdB, Nat.reduceAdd, Nat.reduceSub, Nat.reduceLT, List.replicate]
    refine lp_enum kl (zs.map fun z => V.ref z.1) (fun R hR => by simp only [rdA, rdB, Nat.reduceAdd, Nat.reduceSub, Nat.reduceLT, List.replicate, rdC, fd_Receiver, tc_Receiver T, ob]; exact hR) (SqL.of x.kn) ?_
    refine for_enum (fun i σ H2 => ∃ v2 v3 : Option V, σ = [some (.ref r), some (.int (a : Nat)), v2, v3] ∧ Same H H2 ∧ ∀ j z, j < i → zs[j]? = some z → hasAddr a z = false) ⟨none, none, rfl, Same.refl H, fun j z hj => by omega⟩ (fun i σ H2 _ ⟨_, _, _, s2, _⟩ => s2.seq (SqL.of x.kn)) ?_ ?_
    · rintro i y σ H2 T0 hi ⟨v2, v3, rfl, s2, hall⟩ hT
      rw [List.getElem?_map] at hi
      obtain ⟨z, hz, rfl⟩ := Option.map_eq_some_iff.mp hi
      refine ⟨T0, _, rfl, SqT.of upd_same, rfl, _, _, rfl, _, _, rfl, rfl, ?_⟩
      obtain ⟨dy, nm, pl, ph, he, ho, c1, b⟩ := x.cr z (List.mem_of_getElem? hz)
      unfold craftO at c1
      have s3 := s2.trans (Same.new (o := .tup [.int (i : Nat), .ref z.1]) hT)
      have c2 := s3 _ _ c1
      simp only [rdA, rdB, Nat.reduceAdd, Nat.reduceSub, Nat.reduceLT, List.replicate, rEq, scal, rdC, fd_Aircraft, tc_Aircraft T, c2]
      by_cases c : z.2.2.addr = a
      · rw [if_pos (decide_eq_true (by rw [c]))]
        have e : zs.findIdx? (hasAddr a) = some i := by
          rw [List.findIdx?_eq_some_iff_getElem]
          obtain ⟨hlt, hz'⟩ := List.getElem?_eq_some_iff.mp hz
          refine ⟨hlt, by rw [hz']; simp [hasAddr, c], fun j hj => ?_⟩
          have := hall j zs[j] hj (List.getElem?_eq_getElem (by omega))
          simpa using this
        have q' := q _ s3
        unfold spotOf at q'
        rw [e] at q'
        exact q'
      · rw [if_neg (by simp only [decide_eq_true_eq]; omega)]
        refine ⟨s3, fun j z' hj hz' => ?_⟩
        by_cases hji : j = i
        · subst hji
          rw [hz] at hz'
          cases hz'
          simpa [hasAddr] using c
        · exact hall j z' (by omega) hz'
    · rintro σ H2 ⟨v2, v3, rfl, s2, hall⟩
      rw [List.length_map] at hall
      simp only [rdA, rdB, Nat.reduceAdd, Nat.reduceSub, Nat.reduceLT, List.replicate]
      have e : zs.findIdx? (hasAddr a) = none := by
        rw [List.findIdx?_eq_none_iff]
        intro z hz
        obtain ⟨j, hj, e⟩ := List.getElem_of_mem hz
        exact hall j z hj (by rw [List.getElem?_eq_getElem hj, e])
      have q' := q _ s2
      unfold spotOf at q'
      rw [e] at q'
      exact q'
def sp_known_or_new (A : Ad) : Sp := fun vs H Q _ => ∃ (r kl : Addr) (s : Ql35.St) (zs : Known) (a : Nat), vs = [.ref r, .int a] ∧ Rc A H r s kl zs ∧
  (∀ i z H', zs.findIdx? (hasAddr a) = some i → zs[i]? = some z → Same H H' → Q (.ref z.1) H') ∧
  ∀ p hl H', zs.findIdx? (hasAddr a) = none → H p = none → H hl = none → Same H H' → CraftAt A H' p hl (Ql35.fresh a 0) → Q (.ref p) H'
theorem spot_some {zs : Known} {a i : Nat} (h : zs.findIdx? (hasAddr a) = some i) : ∃ z, zs[i]? = some z ∧ hasAddr a z = true := by
  rw [List.findIdx?_eq_some_iff_getElem] at h
  obtain ⟨hlt, hp, _⟩ := h
  exact ⟨zs[i], List.getElem?_eq_getElem hlt, hp⟩
theorem ok_Receiver_known_or_new (T : Txt K mg A) : FnOk P w K mg base CX0 3 A.f_Receiver_known_or_new A.d_Receiver_known_or_new ["self", "address"] (sp_known_or_new A) := by
  refine T.fn_Receiver_known_or_new.ok sc_Receiver_known_or_new (fun vs H Q E h => ?_) (fun cdv A' outer s H vs Q E hr h => ?_)
  · obtain ⟨r, kl, s, zs, a, rfl, _⟩ := h
    rfl
  · obtain ⟨r, kl, s, zs, a, rfl, x, q1, q2⟩ := h
    obtain ⟨dx, ob⟩ := x.ob
    have nd := sc_Receiver_known_or_new.nd
    refine ⟨_, (pss_cons (ps_set (i := 2) nd rfl (Or.inl rfl) (pe_meth (pv 0) T.cl_Receiver T.me_Receiver_spot_of (ok_Receiver_spot_of T) (hr.mono (by decide)) (b_Receiver_spot_of T) .nil pass0 (pa_cons (pv 1) pa_nil)))
      (pss_one (ps_ret (pe_ifExp (pt_cmpR op_eq (pv 2) (pe_gI rfl T.gi_NOBODY) (nomark _)) (pe_make T.mk_Aircraft (ok_Aircraft___init__ T) (hr.mono (by decide)) rfl T.mg_Aircraft (b_Aircraft___init__ T) .nil pass0 (pa_cons (pv 1) pa_nil)) (pe_ix ix_list (pe_fld (pv 0) rfl) (pv 2) (fun _ _ => rfl)))))), ?_⟩
    simp only [rdA, rdB, Nat.reduceAdd, Nat.reduceSub, Nat.reduceLT, List.replicate, rEq, scal, rdC, fd_Receiver, tc_Receiver T, ob]
    refine ⟨r, kl, s, zs, a, rfl, x, fun H1 s1 => ?_⟩
    simp only [rdA, rdB, Nat.reduceAdd, Nat.reduceSub, Nat.reduceLT, List.replicate, rEq, scal, rdC, fd_Receiver, tc_Receiver T]
    cases e : zs.findIdx? (hasAddr a) with
    | none =>
      have es : spotOf zs a = -1 := by unfold spotOf; rw [e]
      rw [es, if_pos (by decide)]
      intro p d hp hd ne
      refine ⟨p, d, a, rfl, upd_same, fun hl H2 hn fr hc => ⟨rfl, q2 p hl H2 e (s1.free hp) ?_ (fun b o hb => ?_) hc⟩⟩
      · refine s1.free ?_
        have n1 : hl ≠ p := by
          rintro rfl
          rw [upd_same] at hn
          cases hn
        rw [upd_ne n1] at hn
        have n2 : hl ≠ d := by
          rintro rfl
          rw [upd_same] at hn
          cases hn
        rw [upd_ne n2] at hn
        exact hn
      · have hb1 := s1 _ _ hb
        refine fr b o ?_ (ne_of_none hb1 hp)
        rw [upd_ne (ne_of_none hb1 hp), upd_ne (ne_of_none hb1 hd)]
        exact hb1
    | some i =>
      have es : spotOf zs a = (i : Nat) := by unfold spotOf; rw [e]
      rw [es, if_neg (by simp only [decide_eq_true_eq]; omega)]
      obtain ⟨z, hz, _⟩ := spot_some e
      have x1 := x.same s1
      obtain ⟨dx1, ob1⟩ := x1.ob
      simp only [rdA, rdB, Nat.reduceAdd, Nat.reduceSub, Nat.reduceLT, List.replicate, rdC, fd_Receiver, tc_Receiver T, ob1]
      exact ⟨kl, _, _, V.ref z.1, rfl, rfl, SqL.of x1.kn, atI_nat (by rw [List.getElem?_map, hz]; rfl), q1 i z H1 e hz s1⟩
end
end Ph

namespace Ph
open PySem L2
section
variable {P : Program} {w : World} {K : PySem.W.Frag} {mg : Str → Option Value} {base : Heap} {A : Ad}
abbrev others (a : Nat) (z : Addr × Addr × Ql35.Craft) : Bool := !decide (z.2.2.addr = a)
def restOf (zs : Known) (a : Nat) : Known := (zs.filter (others a)).take 255
theorem restOf_sub (zs : Known) (a : Nat) : (restOf zs a).Sublist zs := (List.take_sublist _ _).trans List.filter_sublist
theorem restOf_ne {zs : Known} {a : Nat} {z : Addr × Addr × Ql35.Craft} (h : z ∈ restOf zs a) : z.2.2.addr ≠ a := by
  have := (List.mem_filter.mp (List.mem_of_mem_take h)).2
  simpa [others] using this
theorem cut255 (xs : List V) : cutV xs none (some (256 - 1)) = xs.take 255 := by
  have e : HT.sIx xs.length xs.length (some (256 - 1)) = min 255 xs.length := HT.sIx_nat _ _ 255
  unfold cutV
  rw [e, HT.sIx_none, List.drop_zero, Nat.sub_zero]
  by_cases h : 255 ≤ xs.length
  · rw [Nat.min_eq_left h]
  · rw [Nat.min_eq_right (by omega), List.take_length, List.take_of_length_le (by omega)]
def sp_hear (A : Ad) : Sp := fun vs H Q _ => ∃ (r kl p hl : Addr) (s : Ql35.St) (zs : Known) (c : Ql35.Craft), vs = [.ref r, .ref p] ∧ Rc A H r s kl zs ∧ CraftAt A H p hl c ∧ (∀ z ∈ zs, z.2.2.addr ≠ c.addr → z.2.1 ≠ hl) ∧
  ∀ kl' H', Frm [r, p] H H' → H kl' = none → Rc A H' r ⟨s.now, { c with heard := s.now } :: (restOf zs c.addr).map (·.2.2)⟩ kl' ((p, hl, { c with heard := s.now }) :: restOf zs c.addr) → Q .non H'
theorem ok_Receiver_hear (T : Txt K mg A) : FnOk P w K mg base CX0 1 A.f_Receiver_hear A.d_Receiver_hear ["self", "aircraft"] (sp_hear A) := by
  refine T.fn_Receiver_hear.ok sc_Receiver_hear (fun vs H Q E h => ?_) (fun cdv A' outer s H vs Q E hr h => ?_)
  · obtain ⟨r, kl, p, hl, s, zs, c, rfl, _⟩ := h
    rfl
  · obtain ⟨r, kl, p, hl, s, zs, c, rfl, x, hc, hh, q⟩ := h
    obtain ⟨dx, ob⟩ := x.ob
    obtain ⟨dp, nm, pl, ph, he, ho, hp, b⟩ := id hc
    unfold craftO at hp
    have nd := sc_Receiver_hear.nd
    have ap := x.apart
    have rp : r ≠ p := ne_of ob hp (by intro z; unfold fl_Aircraft fl_Receiver at z; injection z with z1 z2 z3; injection z3 with z4 z5; injection z5 with z6 z7; cases z7)
    have kp : kl ≠ p := ne_of x.kn hp (by intro z; cases z)
    have hle : zs.length < sizeLine := small1000 (by have := x.le; omega)
    refine ⟨_, (pss_cons (ps_fld (pv 1) (pe_fld (pv 0) rfl) rfl)
      (pss_cons (ps_setLcX (i := 2) rfl nd rfl rfl (sw_true rfl rfl rfl (by decide +kernel)) (pi_list (pe_fld (pv 0) rfl)) (own := [("other", 3)]) (blkOk_by (by kernel_rfl)) (fun _ _ _ _ _ => pg_name (i := 3) nd rfl (Or.inl rfl)) (fun _ _ _ _ _ => (pts_one (pt_cmpR op_ne (pe_fldK (K := K) rfl (pv 3) rfl) (pe_fldK (K := K) rfl (pv 1) rfl) (nomark _)))) (fun _ _ _ _ _ => (pv 3)) (fun _ => rfl))
      (pss_one (ps_fld (pv 0) (pe_op op_cat (pe_lst (pa_cons (pv 1) pa_nil)) (pe_slice sl_list (pv 2) po_none (po_some (pe_op op_sub (pe_gI rfl T.gi_MOST_AIRCRAFT) pe_int)))) rfl)))), ?_⟩
    refine seqI (fun σ' H' => σ' = [some (.ref r), some (.ref p), none, none] ∧ H' = upd H p (craftO A dp hl nm pl ph { c with heard := s.now })) ?_ ?_
    · intro U hU
      simp only [rdA, rdB, Nat.reduceAdd, Nat.reduceSub, Nat.reduceLT, List.replicate, rdC, fd_Aircraft, tc_Aircraft T, rdC, fd_Receiver, tc_Receiver T, ob, hp]
      exact hU _ _ ⟨rfl, rfl⟩
    rintro _ _ ⟨rfl, rfl⟩
    have f1 : Frm [r, p] H (upd H p (craftO A dp hl nm pl ph { c with heard := s.now })) := .upd hp rfl (by simp)
    have ob1 : upd H p (craftO A dp hl nm pl ph { c with heard := s.now }) r = some (.ins A.Receiver dx (fl_Receiver (.int (s.now : Nat)) (.ref kl))) := by rw [upd_ne rp]; exact ob
    have kn1 : upd H p (craftO A dp hl nm pl ph { c with heard := s.now }) kl = some (.lst (zs.map fun z => V.ref z.1)) := by rw [upd_ne kp]; exact x.kn
    have hp1 : upd H p (craftO A dp hl nm pl ph { c with heard := s.now }) p = some (craftO A dp hl nm pl ph { c with heard := s.now }) := upd_same
    have ad1 : ∀ z ∈ zs, ∃ dz nz pz qz cz hz, upd H p (craftO A dp hl nm pl ph { c with heard := s.now }) z.1 = some (craftO A dz hz nz pz qz cz) ∧ cz.addr = z.2.2.addr := by
      intro z hz
      have hz' := x.cr z hz
      by_cases e : z.1 = p
      · refine ⟨_, _, _, _, _, _, by rw [e]; exact hp1, ?_⟩
        by_cases e2 : z.2.2.addr = c.addr
        · exact e2.symm
        · exact absurd e (hz'.addr_ne hc e2)
      · obtain ⟨dz, nz, pz, qz, _, _, a, _⟩ := hz'
        exact ⟨dz, nz, pz, qz, z.2.2, z.2.1, by rw [upd_ne e]; exact a, rfl⟩
    have np1 : ∀ D, upd H p (craftO A dp hl nm pl ph { c with heard := s.now }) D = none → H D = none := fun D hD => by
      have n : D ≠ p := by
        rintro rfl
        rw [upd_same] at hD
        cases hD
      rw [upd_ne n] at hD
      exact hD
    generalize upd H p (craftO A dp hl nm pl ph { c with heard := s.now }) = H1 at f1 ob1 kn1 hp1 ad1 np1 ⊢
    refine seqI (fun σ' H' => ∃ D, σ' = [some (.ref r), some (.ref p), some (.ref D), none] ∧ H1 D = none ∧ H' = upd H1 D (.lst ((zs.filter (others c.addr)).map fun z => V.ref z.1))) ?_ ?_
    · intro U hU
      simp only [rdA, rdB, Nat.reduceAdd, Nat.reduceSub, Nat.reduceLT, List.replicate]
      refine tLc_list kl (zs.map fun z => V.ref z.1) (fun R hR => by simp only [rdA, rdB, Nat.reduceAdd, Nat.reduceSub, Nat.reduceLT, List.replicate, rdC, fd_Receiver, tc_Receiver T, ob1]; exact hR) (SqL.of kn1)
        (fun D hD => lc_keep zs (fun z => V.ref z.1) (others c.addr) (by show 3 < 4; decide) hD (SqL.of kn1) hle (fun z hz H' R s' hR => ?_) ?_)
      · obtain ⟨dz, nz, pz, qz, cz, hz2, a, ea⟩ := ad1 z hz
        have a' := s' _ _ a
        have hp' := s' _ _ hp1
        unfold craftO at a' hp'
        simp only [rdA, rdB, Nat.reduceAdd, Nat.reduceSub, Nat.reduceLT, List.replicate, rNe, scal, rdC, fd_Aircraft, tc_Aircraft T, a', hp', ea]
        have e : decide (((z.2.2.addr : Nat) : Int) = ((c.addr : Nat) : Int)) = decide (z.2.2.addr = c.addr) := decide_eq_decide.mpr (by omega)
        rw [e]
        exact hR
      · exact hU _ _ ⟨D, rfl, hD, rfl⟩
    rintro _ _ ⟨D, rfl, hD, rfl⟩
    simp only [rdA, rdB, Nat.reduceAdd, Nat.reduceSub, Nat.reduceLT, List.replicate, tLst, tSl, tNoPart, tPart, rSlL, rCat]
    simp only [cut255]
    refine ⟨by decide, fun D1 h1 => ?_⟩
    refine ⟨_, SqL.of (Same.new h1 _ _ upd_same), fun D2 h2 => ?_⟩
    have hl255 : (((zs.filter (others c.addr)).map fun z => V.ref z.1).take 255).length ≤ 255 := by
      rw [List.length_take]
      omega
    refine ⟨_, Same.new h2 _ _ upd_same, _, upd_same, Nat.le_of_lt (small1000 (by rw [List.length_singleton]; omega)), fun D3 h3 => ?_⟩
    have s3 := (((Same.new (o := .lst ((zs.filter (others c.addr)).map fun z => V.ref z.1)) hD).trans (Same.new (o := .lst [V.ref p]) h1)).trans (Same.new (o := .lst (((zs.filter (others c.addr)).map fun z => V.ref z.1).take 255)) h2))
    have s4 := s3.trans (Same.new (o := .lst ([V.ref p] ++ ((zs.filter (others c.addr)).map fun z => V.ref z.1).take 255)) h3)
    have n3 : H1 D3 = none := s3.free h3
    have e4 : upd (upd (upd (upd H1 D (.lst ((zs.filter (others c.addr)).map fun z => V.ref z.1))) D1 (.lst [V.ref p])) D2 (.lst (((zs.filter (others c.addr)).map fun z => V.ref z.1).take 255))) D3 (.lst ([V.ref p] ++ ((zs.filter (others c.addr)).map fun z => V.ref z.1).take 255)) D3 = some (.lst ([V.ref p] ++ ((zs.filter (others c.addr)).map fun z => V.ref z.1).take 255)) := upd_same
    generalize upd (upd (upd (upd H1 D (.lst ((zs.filter (others c.addr)).map fun z => V.ref z.1))) D1 (.lst [V.ref p])) D2 (.lst (((zs.filter (others c.addr)).map fun z => V.ref z.1).take 255))) D3 (.lst ([V.ref p] ++ ((zs.filter (others c.addr)).map fun z => V.ref z.1).take 255)) = H4 at s4 e4 ⊢
    refine ⟨_, dx, _, s4 _ _ ob1, T.cl_Receiver, T.na_Receiver_known, ln_Receiver, ?_⟩
    rw [pt_Receiver_known]
    have fr : Frm [r, p] H (upd H4 r (.ins A.Receiver dx (fl_Receiver (.int (s.now : Nat)) (.ref D3)))) := (f1.trans (.of s4)).trans (.upd (p := r) (s4 _ _ ob1) rfl (by simp))
    have d3r : D3 ≠ r := fun e => by rw [e, ob1] at n3; cases n3
    have hD3 := np1 D3 n3
    have sub := restOf_sub zs c.addr
    have hlr : hl ≠ r := ne_of b.2.2.1 ob (by intro z; cases z)
    refine q D3 _ fr hD3 ⟨⟨dx, upd_same⟩, ?_, fun z hz => ?_, rfl, ?_, ?_, ?_, ?_⟩
    · rw [upd_ne d3r, e4]
      unfold restOf
      rw [List.map_cons, List.map_take]
      rfl
    · rcases List.mem_cons.mp hz with e | e
      · subst e
        exact ⟨dp, nm, pl, ph, he, ho, by rw [upd_ne rp.symm]; exact s4 _ _ hp1, b.frm fr (by simp [hlr, hc.ne])⟩
      · have hz' := sub.subset e
        have cz := x.cr z hz'
        have q4 := ap.2 z hz'
        have q5 := cz.addr_ne hc (restOf_ne e)
        have q6 : z.2.1 ≠ p := by
          obtain ⟨dz, nz, pz, qz, _, _, _, bz⟩ := cz
          exact ne_of bz.2.2.1 hp (by intro z; cases z)
        exact cz.frm fr (by simp [q4.1, q5]) (by simp [q4.2.1, q6])
    · rw [List.map_cons, List.nodup_cons]
      refine ⟨fun m => ?_, x.n1.sublist (sub.map _)⟩
      obtain ⟨z, hz, e⟩ := List.mem_map.mp m
      exact (x.cr z (sub.subset hz)).addr_ne hc (restOf_ne hz) e
    · rw [List.map_cons, List.nodup_cons]
      refine ⟨fun m => ?_, x.n2.sublist (sub.map _)⟩
      obtain ⟨z, hz, e⟩ := List.mem_map.mp m
      exact hh z (sub.subset hz) (restOf_ne hz) e
    · intro m
      rw [List.map_cons, List.mem_cons] at m
      rcases m with e | e
      · exact hc.has.2 (by rw [← (show D3 = hl from e)]; exact hD3)
      · obtain ⟨z, hz, e⟩ := List.mem_map.mp e
        exact (x.cr z (sub.subset hz)).has.2 (by rw [e]; exact hD3)
    · rw [List.length_cons]
      unfold restOf
      rw [List.length_take]
      omega
end
end Ph

namespace Ph
open PySem L2
section
variable {P : Program} {w : World} {K : PySem.W.Frag} {mg : Str → Option Value} {base : Heap} {A : Ad}
theorem nodup_inj {α β : Type} {l : List α} {f : α → β} (h : (l.map f).Nodup) {x y : α} (hx : x ∈ l) (hy : y ∈ l) (e : f x = f y) : x = y := by
  obtain ⟨i, hi, ei⟩ := List.getElem_of_mem hx
  obtain ⟨j, hj, ej⟩ := List.getElem_of_mem hy
  have a : (l.map f)[i]? = some (f x) := by rw [List.getElem?_map, List.getElem?_eq_getElem hi, ei]; rfl
  have b : (l.map f)[j]? = some (f x) := by rw [List.getElem?_map, List.getElem?_eq_getElem hj, ej, e]; rfl
  have ij := nd_ix h a b
  subst ij
  exact ei.symm.trans ej
theorem find_none {s : Ql35.St} {zs : Known} {a : Nat} (st : zs.map (·.2.2) = s.crafts) (h : zs.findIdx? (hasAddr a) = none) : s.find a = none := by
  rw [List.findIdx?_eq_none_iff] at h
  unfold Ql35.St.find
  rw [← st, List.find?_eq_none]
  intro c hc
  obtain ⟨z, hz, rfl⟩ := List.mem_map.mp hc
  have := h z hz
  simpa [hasAddr] using this
theorem find_some {s : Ql35.St} {zs : Known} {a i : Nat} {z : Addr × Addr × Ql35.Craft} (st : zs.map (·.2.2) = s.crafts) (h : zs.findIdx? (hasAddr a) = some i) (hz : zs[i]? = some z) : s.find a = some z.2.2 ∧ z.2.2.addr = a := by
  rw [List.findIdx?_eq_some_iff_getElem] at h
  obtain ⟨hlt, hp, hall⟩ := h
  have ez : zs[i] = z := by
    rw [List.getElem?_eq_getElem hlt] at hz
    exact Option.some.inj hz
  rw [ez] at hp
  have ha : z.2.2.addr = a := by simpa [hasAddr] using hp
  refine ⟨?_, ha⟩
  unfold Ql35.St.find
  rw [← st, List.find?_map]
  show Option.map _ (List.find? (hasAddr a) zs) = _
  rw [List.find?_eq_some_iff_getElem.mpr ⟨hp, i, hlt, ez, fun j hj => ?_⟩]
  · rfl
  · have := hall j hj
    simpa [hasAddr] using this
theorem hear_known {s : Ql35.St} {zs : Known} {a : Nat} {g : Ql35.Craft → Ql35.Craft} {c : Ql35.Craft} (st : zs.map (·.2.2) = s.crafts) (hc : { (s.find a).getD (Ql35.fresh a s.now) with heard := s.now } = { c with heard := s.now }) :
    s.hear a g = ⟨s.now, g { c with heard := s.now } :: (restOf zs a).map (·.2.2)⟩ := by
  have e1 : s.hear a g = ⟨s.now, g { (s.find a).getD (Ql35.fresh a s.now) with heard := s.now } :: (s.crafts.filter fun c => c.addr != a).take 255⟩ := rfl
  rw [e1, hc, ← st, List.filter_map]
  unfold restOf
  rw [List.map_take]
  congr 4
theorem Stp.heard {H0 H1 H2 : Hp} {r kl kl' p hl : Addr} {zs : Known} {a : Nat} {c : Ql35.Craft} (s : Same H0 H1) (fr : Frm [r, p] H1 H2) (hk : H1 kl' = none) (hp : p ∈ own r kl zs ∨ H0 p = none) (hh : hl ∈ own r kl zs ∨ H0 hl = none) : Stp H0 H2 r kl kl' zs ((p, hl, c) :: restOf zs a) := by
  have rin : r ∈ own r kl zs := List.mem_cons_self ..
  refine ⟨fun b o e m => fr b o (s b o e) (m.imp_right fun n z => ?_), fun b hb => ?_⟩
  · simp only [List.mem_cons, List.not_mem_nil, or_false] at z
    rcases z with z | z
    · exact n (z ▸ rin)
    · rcases hp with q | q
      · exact n (z ▸ q)
      · rw [← z, e] at q; cases q
  · have sub := restOf_sub zs a
    unfold own at hb ⊢
    simp only [List.map_cons, List.mem_cons, List.mem_append, List.mem_map] at hb
    unfold own at hp hh
    simp only [List.mem_cons, List.mem_append, List.mem_map] at hp hh ⊢
    rcases hb with e | e | (e | ⟨z, hz, e⟩) | (e | ⟨z, hz, e⟩)
    · exact .inl (.inl e)
    · right; rw [e]; exact s.free hk
    · rw [e]; exact hp
    · exact .inl (.inr (.inr (.inl ⟨z, sub.subset hz, e⟩)))
    · rw [e]; exact hh
    · exact .inl (.inr (.inr (.inr ⟨z, sub.subset hz, e⟩)))
theorem own_fst {r kl : Addr} {zs : Known} {z : Addr × Addr × Ql35.Craft} (h : z ∈ zs) : z.1 ∈ own r kl zs := by
  unfold own
  simp only [List.mem_cons, List.mem_append, List.mem_map]
  exact .inr (.inr (.inl ⟨z, h, rfl⟩))
theorem own_hl {r kl : Addr} {zs : Known} {z : Addr × Addr × Ql35.Craft} (h : z ∈ zs) : z.2.1 ∈ own r kl zs := by
  unfold own
  simp only [List.mem_cons, List.mem_append, List.mem_map]
  exact .inr (.inr (.inr ⟨z, h, rfl⟩))
theorem Rc.hl_ne {H : Hp} {r kl : Addr} {s : Ql35.St} {zs : Known} (x : Rc A H r s kl zs) {z : Addr × Addr × Ql35.Craft} (hz : z ∈ zs) : ∀ z' ∈ zs, z'.2.2.addr ≠ z.2.2.addr → z'.2.1 ≠ z.2.1 := fun z' hz' n e =>
  n (congrArg (fun y : Addr × Addr × Ql35.Craft => y.2.2.addr) (nodup_inj x.n2 hz' hz e))
def sp_take_reply (A : Ad) : Sp := fun vs H Q _ => ∃ (r kl : Addr) (s : Ql35.St) (zs : Known) (m w f : Nat), vs = [.ref r, .int m, .int w, .int f] ∧ (w = 56 ∨ w = 112) ∧ (f = 4 ∨ f = 20 ∨ f = 5 ∨ f = 21) ∧ Rc A H r s kl zs ∧
  ∀ kl' zs' H', Rc A H' r (replyPy s w m f).1 kl' zs' → Stp H H' r kl kl' zs zs' → Q (.int (replyPy s w m f).2) H'
theorem ok_Receiver_take_reply (T : Txt K mg A) : FnOk P w K mg base CX0 5 A.f_Receiver_take_reply A.d_Receiver_take_reply ["self", "message", "length", "layout"] (sp_take_reply A) := by
  refine T.fn_Receiver_take_reply.ok sc_Receiver_take_reply (fun vs H Q E h => ?_) (fun cdv A' outer s H vs Q E hr h => ?_)
  · obtain ⟨r, kl, s, zs, m, w, f, rfl, _⟩ := h
    rfl
  · obtain ⟨r, kl, s, zs, m, w, f, rfl, hw, hf, x, q⟩ := h
    obtain ⟨dx, ob⟩ := x.ob
    have nd := sc_Receiver_take_reply.nd
    refine ⟨_, (pss_cons (ps_set (i := 4) nd rfl (Or.inl rfl) (pe_meth (pv 0) T.cl_Receiver T.me_Receiver_spot_of (ok_Receiver_spot_of T) (hr.mono (by decide)) (b_Receiver_spot_of T) .nil pass0 (pa_cons (pe_call (ok_rest_of T) (hr.mono (by decide)) rfl T.mg_rest_of T.fn_rest_of.kp (b_rest_of T) .nil pass0 (pa_cons (pv 1) (pa_cons (pv 2) pa_nil))) pa_nil)))
      (pss_cons (ps_if (pt_cmpR op_eq (pv 4) (pe_gI rfl T.gi_NOBODY) (nomark _)) (pss_one (ps_ret (pe_gI rfl T.gi_NOT_KNOWN))) pss_nil)
      (pss_cons (ps_set (i := 5) nd rfl (Or.inl rfl) (pe_ix ix_list (pe_fld (pv 0) rfl) (pv 4) (fun _ _ => rfl)))
      (pss_cons (ps_expr (pe_meth (pv 0) T.cl_Receiver T.me_Receiver_hear (ok_Receiver_hear T) (hr.mono (by decide)) (b_Receiver_hear T) .nil pass0 (pa_cons (pv 5) pa_nil)))
      (pss_cons (ps_set (i := 6) nd rfl (Or.inl rfl) (pe_call (ok_bits_between T) (hr.mono (by decide)) rfl T.mg_bits_between T.fn_bits_between.kp (b_bits_between T) .nil pass0 (pa_cons (pv 1) (pa_cons (pv 2) (pa_cons pe_int (pa_cons pe_int pa_nil))))))
      (pss_cons (ps_if (pt_cmpR op_in_seq (pv 3) (pe_gR rfl T.gr_HEIGHT_FORMATS) rfl) (pss_one (ps_expr (pe_meth (pv 5) T.cl_Aircraft T.me_Aircraft_take_height (ok_Aircraft_take_height T) (hr.mono (by decide)) (b_Aircraft_take_height T) .nil pass0 (pa_cons (pe_call (ok_height_of T) (hr.mono (by decide)) rfl T.mg_height_of T.fn_height_of.kp (b_height_of T) .nil pass0 (pa_cons (pv 6) pa_nil)) pa_nil)))) (pss_one (ps_fld (pv 5) (pe_call (ok_identity_of T) (hr.mono (by decide)) rfl T.mg_identity_of T.fn_identity_of.kp (b_identity_of T) .nil pass0 (pa_cons (pv 6) pa_nil)) rfl)))
      (pss_one (ps_ret (pe_gI rfl T.gi_TAKEN))))))))), ?_⟩
    refine seqI (fun σ' H' => σ' = [some (.ref r), some (.int (m : Nat)), some (.int (w : Nat)), some (.int (f : Nat)), some (.int (spotOf zs (Ql35.sum w m))), none, none] ∧ Same H H') ?_ ?_
    · intro U hU
      simp only [rdA, rdB, Nat.reduceAdd, Nat.reduceSub, Nat.reduceLT, List.replicate, rdC, fd_Receiver, tc_Receiver T, ob]
      exact ⟨m, w, rfl, hw, r, kl, s, zs, _, rfl, x, fun H1 s1 => hU _ _ ⟨rfl, s1⟩⟩
    rintro _ H1 ⟨rfl, s1⟩
    have x1 := x.same s1
    obtain ⟨dx1, ob1⟩ := x1.ob
    cases e : zs.findIdx? (hasAddr (Ql35.sum w m)) with
    | none =>
      have es : spotOf zs (Ql35.sum w m) = -1 := by unfold spotOf; rw [e]
      rw [es]
      have er : replyPy s w m f = (s, -3) := by unfold replyPy; rw [find_none x.st e]
      rw [er] at q
      simp only [rdA, rdB, Nat.reduceAdd, Nat.reduceSub, Nat.reduceLT, List.replicate, rEq, scal]
      rw [if_pos (by decide)]
      exact q kl zs H1 x1 (.same s1)
    | some i =>
      have es : spotOf zs (Ql35.sum w m) = (i : Nat) := by unfold spotOf; rw [e]
      rw [es]
      obtain ⟨z, hz, _⟩ := spot_some e
      obtain ⟨hfi, had⟩ := find_some x.st e hz
      have hzm := List.mem_of_getElem? hz
      have er : replyPy s w m f = (s.hear (Ql35.sum w m) (setCode w m f), 0) := by unfold replyPy; rw [hfi]
      have hk := hear_known (g := setCode w m f) (a := Ql35.sum w m) (c := z.2.2) x.st (by rw [hfi]; rfl)
      rw [er, hk, ← had] at q
      simp only [rdA, rdB, Nat.reduceAdd, Nat.reduceSub, Nat.reduceLT, List.replicate, rEq, scal, rdC, fd_Receiver, tc_Receiver T, ob1]
      rw [if_neg (by simp only [decide_eq_true_eq]; omega)]
      refine ⟨kl, _, _, V.ref z.1, rfl, rfl, SqL.of x1.kn, atI_nat (by rw [List.getElem?_map, hz]; rfl), ?_⟩
      simp only [rdA, rdB, Nat.reduceAdd, Nat.reduceSub, Nat.reduceLT, List.replicate, rdC, fd_Receiver, tc_Receiver T, ob1]
      refine ⟨r, kl, z.1, z.2.1, s, zs, z.2.2, rfl, x1, x1.cr z hzm, x1.hl_ne hzm, fun kl2 H2 fr2 hk2 x2 => ?_⟩
      have hcc : ∃ c1 : Ql35.Craft, c1 = { z.2.2 with heard := s.now } := ⟨_, rfl⟩
      obtain ⟨c1, hc1⟩ := hcc
      rw [← hc1] at q x2
      have st2 : Stp H H2 r kl kl2 zs _ := Stp.heard (c := c1) (a := z.2.2.addr) s1 fr2 hk2 (.inl (own_fst hzm)) (.inl (own_hl hzm))
      have hc2 := x2.cr _ (List.mem_cons_self ..)
      have hb : Ql35.bits w m 20 13 < 8192 := bits_lt w m 20 13
      obtain ⟨dz, nm, pl, ph, he, ho, a, b⟩ := id hc2
      unfold craftO at a
      refine ⟨m, w, 20, 32, rfl, by decide, by decide, by omega, by omega, ?_⟩
      unfold setCode at q
      have em : (((f : Nat) : Int) ∈ ([4, 20] : List Int)) ↔ (f = 4 ∨ f = 20) := by
        simp only [List.mem_cons, List.not_mem_nil, or_false]
        omega
      refine rin_ints (ns := [4, 20]) (T.sq_HEIGHT_FORMATS.sq H2) ⟨_, rfl, ?_⟩
      rw [if_neg Bool.false_ne_true]
      by_cases cf : f = 4 ∨ f = 20
      · rw [if_pos cf] at q
        rw [if_pos (by simp only [em, cf, decide_true])]
        exact ⟨_, _, a, no_Aircraft_take_height, _, rfl, hb, fun H3 s3 => ⟨z.1, z.2.1, c1, _, rfl, hc2.same s3, fun H4 f4 c4 => q kl2 _ H4 ((x2.same s3).head f4 c4) (st2.trans ((Stp.same s3).trans (Stp.head f4)))⟩⟩
      · rw [if_neg cf] at q
        rw [if_neg (by simp only [em, cf, decide_false]; decide)]
        refine ⟨_, rfl, hb, _, _, _, a, T.cl_Aircraft, T.na_Aircraft_identity, ln_Aircraft, ?_⟩
        rw [pt_Aircraft_identity]
        have fu : Frm [z.1, z.2.1] H2 (upd H2 z.1 (craftO A dz z.2.1 nm pl ph { c1 with code := some (Ql35.identity (Ql35.bits w m 20 13)) })) := .upd a rfl (by simp)
        exact q kl2 _ _ (x2.head fu ⟨dz, nm, pl, ph, he, ho, upd_same, b.put a rfl⟩) (st2.trans (Stp.head fu))
end
end Ph

namespace Ph
open PySem L2
section
variable {P : Program} {w : World} {K : PySem.W.Frag} {mg : Str → Option Value} {base : Heap} {A : Ad}
def sp_take_squitter (A : Ad) : Sp := fun vs H Q _ => ∃ (r kl : Addr) (s : Ql35.St) (zs : Known) (m w f : Nat), vs = [.ref r, .int m, .int w, .int f] ∧ ((f = 11 ∧ w = 56) ∨ ((f = 17 ∨ f = 18) ∧ w = 112)) ∧ Rc A H r s kl zs ∧
  ∀ kl' zs' H', Rc A H' r (squitPy s w m f).1 kl' zs' → Stp H H' r kl kl' zs zs' → Q (.int (squitPy s w m f).2) H'
theorem ok_Receiver_take_squitter (T : Txt K mg A) : FnOk P w K mg base CX0 10 A.f_Receiver_take_squitter A.d_Receiver_take_squitter ["self", "message", "length", "layout"] (sp_take_squitter A) := by
  refine T.fn_Receiver_take_squitter.ok sc_Receiver_take_squitter (fun vs H Q E h => ?_) (fun cdv A' outer s H vs Q E hr h => ?_)
  · obtain ⟨r, kl, s, zs, m, w, f, rfl, _⟩ := h
    rfl
  · obtain ⟨r, kl, s, zs, m, w, f, rfl, hf, x, q⟩ := h
    have hw : w = 56 ∨ w = 112 := by omega
    obtain ⟨dx, ob⟩ := x.ob
    have nd := sc_Receiver_take_squitter.nd
    refine ⟨_, (pss_cons (ps_set (i := 4) nd rfl (Or.inl rfl) (pe_gI rfl T.gi_TAKEN))
      (pss_cons (ps_if (pt_cmpR op_ne (pe_call (ok_rest_of T) (hr.mono (by decide)) rfl T.mg_rest_of T.fn_rest_of.kp (b_rest_of T) .nil pass0 (pa_cons (pv 1) (pa_cons (pv 2) pa_nil))) pe_int (nomark _)) (pss_cons (ps_set (i := 4) nd rfl (Or.inl rfl) (pe_gI rfl T.gi_TAKEN_WITH_A_BIT_TURNED))
      (pss_cons (ps_set (i := 1) nd rfl (Or.inl rfl) (pe_call (ok_with_one_bit_turned T) (hr.mono (by decide)) rfl T.mg_with_one_bit_turned T.fn_with_one_bit_turned.kp (b_with_one_bit_turned T) .nil pass0 (pa_cons (pv 1) (pa_cons (pv 2) pa_nil))))
      (pss_one (ps_if (pt_cmpR op_isN (pv 1) pe_non (nomark _)) (pss_one (ps_ret (pe_gI rfl T.gi_NOT_RIGHT))) pss_nil)))) pss_nil)
      (pss_cons (ps_if (PW.pt (pw_and (pt_cmpR op_eq (pv 3) (pe_gI rfl T.gi_OTHERS_EXTENDED_FORMAT) (nomark _)) (pw_and1 (pt_cmpR op_ne (pe_call (ok_bits_between T) (hr.mono (by decide)) rfl T.mg_bits_between T.fn_bits_between.kp (b_bits_between T) .nil pass0 (pa_cons (pv 1) (pa_cons (pv 2) (pa_cons pe_int (pa_cons pe_int pa_nil))))) pe_int (nomark _))))) (pss_one (ps_ret (pv 4))) pss_nil)
      (pss_cons (ps_set (i := 5) nd rfl (Or.inl rfl) (pe_meth (pv 0) T.cl_Receiver T.me_Receiver_known_or_new (ok_Receiver_known_or_new T) (hr.mono (by decide)) (b_Receiver_known_or_new T) .nil pass0 (pa_cons (pe_call (ok_bits_between T) (hr.mono (by decide)) rfl T.mg_bits_between T.fn_bits_between.kp (b_bits_between T) .nil pass0 (pa_cons (pv 1) (pa_cons (pv 2) (pa_cons pe_int (pa_cons pe_int pa_nil))))) pa_nil)))
      (pss_cons (ps_expr (pe_meth (pv 0) T.cl_Receiver T.me_Receiver_hear (ok_Receiver_hear T) (hr.mono (by decide)) (b_Receiver_hear T) .nil pass0 (pa_cons (pv 5) pa_nil)))
      (pss_cons (ps_if (pt_cmpR op_ne (pv 3) (pe_gI rfl T.gi_PRESENCE_FORMAT) (nomark _)) (pss_one (ps_expr (pe_meth (pv 5) T.cl_Aircraft T.me_Aircraft_take_extended (ok_Aircraft_take_extended T) (hr.mono (by decide)) (b_Aircraft_take_extended T) .nil pass0 (pa_cons (pe_call (ok_bits_between T) (hr.mono (by decide)) rfl T.mg_bits_between T.fn_bits_between.kp (b_bits_between T) .nil pass0 (pa_cons (pv 1) (pa_cons (pv 2) (pa_cons pe_int (pa_cons pe_int pa_nil))))) (pa_cons (pe_fld (pv 0) rfl) pa_nil))))) pss_nil)
      (pss_one (ps_ret (pv 4))))))))), ?_⟩
    refine seqI (fun σ' H' => σ' = [some (.ref r), some (.int (m : Nat)), some (.int (w : Nat)), some (.int (f : Nat)), some (.int 0), none] ∧ H = H') ?_ ?_
    · intro U hU
      simp only [rdA, rdB, Nat.reduceAdd, Nat.reduceSub, Nat.reduceLT, List.replicate]
      exact hU _ _ ⟨rfl, rfl⟩
    rintro _ _ ⟨rfl, rfl⟩
    refine seqI (fun σ' H' => ∃ y : Nat, Ql35.mended w m = some y ∧ σ' = [some (.ref r), some (.int (y : Nat)), some (.int (w : Nat)), some (.int (f : Nat)), some (.int (if Ql35.sum w m = 0 then 0 else 1)), none] ∧ H = H') ?_ ?_
    · intro U hU
      simp only [rdA, rdB, Nat.reduceAdd, Nat.reduceSub, Nat.reduceLT, List.replicate, rNe, scal]
      refine ⟨m, w, rfl, hw, ?_⟩
      simp only [rdA, rdB, Nat.reduceAdd, Nat.reduceSub, Nat.reduceLT, List.replicate, rNe, scal]
      by_cases c0 : Ql35.sum w m = 0
      · rw [if_neg (by simp [c0])]
        refine hU _ _ ⟨m, by unfold Ql35.mended; rw [if_pos c0], by rw [if_pos c0], rfl⟩
      · rw [if_pos (by simp; omega)]
        refine ⟨m, w, rfl, hw, ?_⟩
        simp only [rdA, rdB, Nat.reduceAdd, Nat.reduceSub, Nat.reduceLT, List.replicate, rNe, scal]
        have em := mended_eq hw c0
        cases et : turnedAt w m with
        | none =>
          rw [et] at em
          have e2 : squitPy s w m f = (s, -2) := by unfold squitPy; rw [em]; rfl
          rw [e2] at q
          rw [if_pos (decide_eq_true (show optN (Option.map (fun p => m ^^^ 2 ^ p) none) = V.non from rfl))]
          exact q kl zs H x (.refl _ _ _ _)
        | some p =>
          rw [et] at em
          rw [if_neg (by simp [optN])]
          exact hU _ _ ⟨_, em, by rw [if_neg c0]; rfl, rfl⟩
    rintro _ _ ⟨y, hy, rfl, rfl⟩
    have e2 : squitPy s w m f = (if f = 18 ∧ Ql35.bits w y 6 3 ≠ 0 then s else s.hear (Ql35.bits w y 9 24) (setExt y w f s.now), if Ql35.sum w m = 0 then 0 else 1) := by unfold squitPy; rw [hy]
    rw [e2] at q
    have ea : (if Ql35.sum w m = 0 then (0 : Int) else 1) = (if Ql35.sum w m = 0 then (0 : Int) else 1) := rfl
    generalize (if Ql35.sum w m = 0 then (0 : Int) else 1) = ans at q ⊢
    clear ea
    by_cases c18 : f = 18 ∧ Ql35.bits w y 6 3 ≠ 0
    · rw [if_pos c18] at q
      simp only [rdA, rdB, Nat.reduceAdd, Nat.reduceSub, Nat.reduceLT, List.replicate, rEq, rNe, scal]
      rw [if_pos (decide_eq_true (by omega))]
      refine ⟨y, w, 6, 8, rfl, by decide, by decide, by omega, by omega, ?_⟩
      simp only [rdA, rdB, Nat.reduceAdd, Nat.reduceSub, Nat.reduceLT, List.replicate, rEq, rNe, scal]
      rw [if_pos (by simp; omega)]
      exact q kl zs _ x (.refl _ _ _ _)
    · rw [if_neg c18] at q
      refine seqI (fun σ' H' => σ' = [some (.ref r), some (.int (y : Nat)), some (.int (w : Nat)), some (.int (f : Nat)), some (.int ans), none] ∧ H = H') ?_ ?_
      · intro U hU
        simp only [rdA, rdB, Nat.reduceAdd, Nat.reduceSub, Nat.reduceLT, List.replicate, rEq, rNe, scal]
        by_cases c1 : f = 18
        · rw [if_pos (decide_eq_true (by omega))]
          refine ⟨y, w, 6, 8, rfl, by decide, by decide, by omega, by omega, ?_⟩
          simp only [rdA, rdB, Nat.reduceAdd, Nat.reduceSub, Nat.reduceLT, List.replicate, rEq, rNe, scal]
          have c2 : Ql35.bits w y 6 3 = 0 := Decidable.of_not_not fun z => c18 ⟨c1, z⟩
          rw [if_neg (by simp [c2])]
          exact hU _ _ ⟨rfl, rfl⟩
        · rw [if_neg (by simp only [decide_eq_true_eq]; omega)]
          rw [if_neg Bool.false_ne_true]
          exact hU _ _ ⟨rfl, rfl⟩
      rintro _ _ ⟨rfl, rfl⟩
      -- who it is
      refine seqI (fun σ' H1 => ∃ (p hl : Addr) (c : Ql35.Craft), σ' = [some (.ref r), some (.int (y : Nat)), some (.int (w : Nat)), some (.int (f : Nat)), some (.int ans), some (.ref p)] ∧ Same H H1 ∧ CraftAt A H1 p hl c ∧ c.addr = Ql35.bits w y 9 24 ∧
        (∀ z ∈ zs, z.2.2.addr ≠ c.addr → z.2.1 ≠ hl) ∧ (p ∈ own r kl zs ∨ H p = none) ∧ (hl ∈ own r kl zs ∨ H hl = none) ∧ { (s.find (Ql35.bits w y 9 24)).getD (Ql35.fresh (Ql35.bits w y 9 24) s.now) with heard := s.now } = { c with heard := s.now }) ?_ ?_
      · intro U hU
        simp only [rdA, rdB, Nat.reduceAdd, Nat.reduceSub, Nat.reduceLT, List.replicate, rdC, fd_Receiver, tc_Receiver T, ob]
        refine ⟨y, w, 9, 32, rfl, by decide, by decide, by omega, by omega, r, kl, s, zs, _, rfl, x, fun i z H1 e hz s1 => ?_, fun p hl H1 e hp hhl s1 hc => ?_⟩
        · obtain ⟨hfi, had⟩ := find_some x.st e hz
          have hzm := List.mem_of_getElem? hz
          exact hU _ _ ⟨z.1, z.2.1, z.2.2, rfl, s1, (x.cr z hzm).same s1, had, x.hl_ne hzm, .inl (own_fst hzm), .inl (own_hl hzm), by rw [hfi]; rfl⟩
        · refine hU _ _ ⟨p, hl, _, rfl, s1, hc, rfl, fun z hz _ e => ?_, .inr hp, .inr hhl, by rw [find_none x.st e]; rfl⟩
          have := (x.cr z hz).has.2
          rw [e] at this
          exact this hhl
      rintro _ H1 ⟨p, hl, c, rfl, s1, hc, had, hne, hpo, hho, hg⟩
      have x1 := x.same s1
      obtain ⟨dx1, ob1⟩ := x1.ob
      have hk := hear_known (g := setExt y w f s.now) (a := Ql35.bits w y 9 24) (c := c) x.st hg
      rw [hk, ← had] at q
      have hcc : ∃ c1 : Ql35.Craft, c1 = { c with heard := s.now } := ⟨_, rfl⟩
      obtain ⟨c1, hc1⟩ := hcc
      rw [← hc1] at q
      refine seqI (fun σ' H2 => ∃ kl2, σ' = [some (.ref r), some (.int (y : Nat)), some (.int (w : Nat)), some (.int (f : Nat)), some (.int ans), some (.ref p)] ∧ Rc A H2 r ⟨s.now, c1 :: (restOf zs c.addr).map (·.2.2)⟩ kl2 ((p, hl, c1) :: restOf zs c.addr) ∧ Stp H H2 r kl kl2 zs ((p, hl, c1) :: restOf zs c.addr)) ?_ ?_
      · intro U hU
        simp only [rdA, rdB, Nat.reduceAdd, Nat.reduceSub, Nat.reduceLT, List.replicate, rdC, fd_Receiver, tc_Receiver T, ob1]
        refine ⟨r, kl, p, hl, s, zs, c, rfl, x1, hc, hne, fun kl2 H2 fr2 hk2 x2 => ?_⟩
        rw [← hc1] at x2
        exact hU _ _ ⟨kl2, rfl, x2, Stp.heard s1 fr2 hk2 hpo hho⟩
      rintro _ H2 ⟨kl2, rfl, x2, st2⟩
      obtain ⟨dx2, ob2⟩ := x2.ob
      have hc2 := x2.cr _ (List.mem_cons_self ..)
      obtain ⟨dz, nm, pl, ph, he, ho, a, b⟩ := id hc2
      unfold craftO at a
      unfold setExt at q
      by_cases c11 : f = 11
      · rw [if_pos c11] at q
        simp only [rdA, rdB, Nat.reduceAdd, Nat.reduceSub, Nat.reduceLT, List.replicate, rNe, scal]
        rw [if_neg (by simp [c11])]
        exact q kl2 _ H2 x2 st2
      · rw [if_neg c11] at q
        simp only [rdA, rdB, Nat.reduceAdd, Nat.reduceSub, Nat.reduceLT, List.replicate, rNe, scal, rdC, fd_Receiver, tc_Receiver T, rdC, fd_Aircraft, tc_Aircraft T, ob2, a]
        rw [if_pos (by simp; omega)]
        refine ⟨y, w, 33, 88, rfl, by decide, by decide, by omega, by omega, ?_⟩
        simp only [rdA, rdB, Nat.reduceAdd, Nat.reduceSub, Nat.reduceLT, List.replicate, rNe, scal, rdC, fd_Receiver, tc_Receiver T, ob2]
        exact ⟨p, hl, c1, _, _, rfl, hc2, fun H3 f3 c3 => q kl2 _ H3 (x2.head f3 c3) (st2.trans (Stp.head f3))⟩
end
end Ph

namespace Ph
open PySem L2
section
variable {P : Program} {w : World} {K : PySem.W.Frag} {mg : Str → Option Value} {base : Heap} {A : Ad}
theorem look_fmt (f : Nat) : lookI [(4, 7), (5, 7), (11, 7), (17, 14), (18, 14), (20, 14), (21, 14)] (f : Int) = (if fmt f = 0 then none else some ((fmt f : Nat) : Int)) := by
  by_cases h4 : f = 4
  · subst h4; decide
  by_cases h5 : f = 5
  · subst h5; decide
  by_cases h11 : f = 11
  · subst h11; decide
  by_cases h17 : f = 17
  · subst h17; decide
  by_cases h18 : f = 18
  · subst h18; decide
  by_cases h20 : f = 20
  · subst h20; decide
  by_cases h21 : f = 21
  · subst h21; decide
  have hz : fmt f = 0 := by
    unfold fmt
    rw [if_neg (by omega), if_neg (by omega)]
  rw [if_pos hz]
  unfold lookI
  simp only [List.find?_cons]
  rw [decide_eq_false (by omega), decide_eq_false (by omega), decide_eq_false (by omega), decide_eq_false (by omega), decide_eq_false (by omega), decide_eq_false (by omega), decide_eq_false (by omega)]
  rfl
def sp_take_message (A : Ad) : Sp := fun vs H Q _ => ∃ (r kl b : Addr) (s : Ql35.St) (zs : Known) (n t : Nat) (bs : List Nat), vs = [.ref r, .int n, .int t, .ref b] ∧ Rc A H r s kl zs ∧ H b = some (.lst (bts bs)) ∧ b ∉ own r kl zs ∧ (n = 7 ∨ n = 14 → bs.length = n) ∧ (∀ x ∈ bs, x < 256) ∧
  ∀ kl' zs' H', Rc A H' r (takePy s bs n t).1 kl' zs' → Stp H H' r kl kl' zs zs' → Q (.int (takePy s bs n t).2) H'
theorem ok_Receiver_take_message (T : Txt K mg A) : FnOk P w K mg base CX0 11 A.f_Receiver_take_message A.d_Receiver_take_message ["self", "n", "t", "row"] (sp_take_message A) := by
  refine T.fn_Receiver_take_message.ok sc_Receiver_take_message (fun vs H Q E h => ?_) (fun cdv A' outer s H vs Q E hr h => ?_)
  · obtain ⟨r, kl, b, s, zs, n, t, bs, rfl, _⟩ := h
    rfl
  · obtain ⟨r, kl, b, s, zs, n, t, bs, rfl, x, hb, hbo, hn, hby, q⟩ := h
    obtain ⟨dx, ob⟩ := x.ob
    have nd := sc_Receiver_take_message.nd
    refine ⟨_, (pss_cons (ps_if (pt_cmpR op_notIn_seq (pv 1) (pe_gR rfl T.gr_LENGTHS) rfl) (pss_one (ps_ret (pe_gI rfl T.gi_NOT_READ))) pss_nil)
      (pss_cons (ps_if (PW.pt (pw_or (pt_cmpR op_lt (pv 2) (pe_fld (pv 0) rfl) (nomark _)) (pw_or1 (pt_cmpR op_ge (pv 2) (pe_gI rfl T.gi_TIMES_END) (nomark _))))) (pss_one (ps_ret (pe_gI rfl T.gi_WRONG_TIME))) pss_nil)
      (pss_cons (ps_expr (pe_meth (pv 0) T.cl_Receiver T.me_Receiver_set_time (ok_Receiver_set_time T) (hr.mono (by decide)) (b_Receiver_set_time T) .nil pass0 (pa_cons (pv 2) pa_nil)))
      (pss_cons (ps_set (i := 4) nd rfl (Or.inl rfl) (pe_call (ok_number_of_bytes T) (hr.mono (by decide)) rfl T.mg_number_of_bytes T.fn_number_of_bytes.kp (b_number_of_bytes T) .nil pass0 (pa_cons (pv 3) pa_nil)))
      (pss_cons (ps_set (i := 5) nd rfl (Or.inl rfl) (pe_call (ok_bits_between T) (hr.mono (by decide)) rfl T.mg_bits_between T.fn_bits_between.kp (b_bits_between T) .nil pass0 (pa_cons (pv 4) (pa_cons (pe_op op_mul pe_int (pv 1)) (pa_cons pe_int (pa_cons pe_int pa_nil))))))
      (pss_cons (ps_if (pt_cmpR op_ne (pe_kget (hu_of hr) rfl T.gr_FORMATS T.dk_FORMATS (pv 5) ⟨rfl, rfl, rfl, rfl⟩) (pv 1) (nomark _)) (pss_one (ps_ret (pe_gI rfl T.gi_NOT_READ))) pss_nil)
      (pss_cons (ps_if (PW.pt (pw_or (pt_cmpR op_in_seq (pv 5) (pe_gR rfl T.gr_HEIGHT_FORMATS) rfl) (pw_or1 (pt_cmpR op_in_seq (pv 5) (pe_gR rfl T.gr_IDENTITY_FORMATS) rfl)))) (pss_one (ps_ret (pe_meth (pv 0) T.cl_Receiver T.me_Receiver_take_reply (ok_Receiver_take_reply T) (hr.mono (by decide)) (b_Receiver_take_reply T) .nil pass0 (pa_cons (pv 4) (pa_cons (pe_op op_mul pe_int (pv 1)) (pa_cons (pv 5) pa_nil)))))) pss_nil)
      (pss_one (ps_ret (pe_meth (pv 0) T.cl_Receiver T.me_Receiver_take_squitter (ok_Receiver_take_squitter T) (hr.mono (by decide)) (b_Receiver_take_squitter T) .nil pass0 (pa_cons (pv 4) (pa_cons (pe_op op_mul pe_int (pv 1)) (pa_cons (pv 5) pa_nil))))))))))))), ?_⟩
    unfold takePy at q
    have em : (((n : Nat) : Int) ∈ ([7, 14] : List Int)) ↔ (n = 7 ∨ n = 14) := by
      simp only [List.mem_cons, List.not_mem_nil, or_false]
      omega
    by_cases c1 : n ≠ 7 ∧ n ≠ 14
    · rw [if_pos c1] at q
      simp only [rdA, rdB, Nat.reduceAdd, Nat.reduceSub, Nat.reduceLT, List.replicate]
      refine rin_ints (ns := [7, 14]) (T.sq_LENGTHS.sq H) ⟨_, rfl, ?_⟩
      have c1' : ¬ (n = 7 ∨ n = 14) := by omega
      rw [if_pos rfl, if_pos (by simp only [em, c1', decide_false, Bool.not_false])]
      exact q kl zs H x (.refl _ _ _ _)
    rw [if_neg c1] at q
    have c1' : n = 7 ∨ n = 14 := by omega
    have hlen := hn c1'
    refine seqI (fun σ' H' => σ' = [some (.ref r), some (.int (n : Nat)), some (.int (t : Nat)), some (.ref b), none, none] ∧ H = H') ?_ ?_
    · intro U hU
      simp only [rdA, rdB, Nat.reduceAdd, Nat.reduceSub, Nat.reduceLT, List.replicate]
      refine rin_ints (ns := [7, 14]) (T.sq_LENGTHS.sq H) ⟨_, rfl, ?_⟩
      rw [if_pos rfl, if_neg (by simp only [em, c1', decide_true, Bool.not_true]; decide)]
      exact hU _ _ ⟨rfl, rfl⟩
    rintro _ _ ⟨rfl, rfl⟩
    by_cases c2 : t < s.now ∨ 2 ^ 31 ≤ t
    · rw [if_pos c2] at q
      simp only [rdA, rdB, Nat.reduceAdd, Nat.reduceSub, Nat.reduceLT, List.replicate, rdC, fd_Receiver, tc_Receiver T, ob]
      by_cases c3 : t < s.now
      · rw [if_pos (decide_eq_true (by omega)), if_pos trivial]
        exact q kl zs H x (.refl _ _ _ _)
      · rw [if_neg (by simp only [decide_eq_true_eq]; omega), if_pos (decide_eq_true (by omega))]
        exact q kl zs H x (.refl _ _ _ _)
    rw [if_neg c2] at q
    refine seqI (fun σ' H' => σ' = [some (.ref r), some (.int (n : Nat)), some (.int (t : Nat)), some (.ref b), none, none] ∧ H = H') ?_ ?_
    · intro U hU
      simp only [rdA, rdB, Nat.reduceAdd, Nat.reduceSub, Nat.reduceLT, List.replicate, rdC, fd_Receiver, tc_Receiver T, ob]
      rw [if_neg (by simp only [decide_eq_true_eq]; omega), if_neg (by simp only [decide_eq_true_eq]; omega)]
      exact hU _ _ ⟨rfl, rfl⟩
    rintro _ _ ⟨rfl, rfl⟩
    refine seqI (fun σ' H1 => σ' = [some (.ref r), some (.int (n : Nat)), some (.int (t : Nat)), some (.ref b), none, none] ∧ ∃ kl1 zs1, Rc A H1 r (expire s t) kl1 zs1 ∧ Stp H H1 r kl kl1 zs zs1) ?_ ?_
    · intro U hU
      simp only [rdA, rdB, Nat.reduceAdd, Nat.reduceSub, Nat.reduceLT, List.replicate, rdC, fd_Receiver, tc_Receiver T, ob]
      exact ⟨r, kl, s, zs, t, rfl, x, fun kl1 zs1 H1 x1 st1 => hU _ _ ⟨rfl, kl1, zs1, x1, st1⟩⟩
    rintro _ H1 ⟨rfl, kl1, zs1, x1, st1⟩
    have hb1 : H1 b = some (.lst (bts bs)) := st1.fr _ _ hb (.inr hbo)
    obtain ⟨dx1, ob1⟩ := x1.ob
    have ew : (8 : Int) * ((n : Nat) : Int) = ((8 * bs.length : Nat) : Int) := by rw [hlen]; omega
    have hw : 8 * bs.length = 56 ∨ 8 * bs.length = 112 := by omega
    unfold messagePy at q
    dsimp only at q
    simp only [rdA, rdB, Nat.reduceAdd, Nat.reduceSub, Nat.reduceLT, List.replicate]
    refine ⟨b, bs, rfl, SqL.of hb1, by omega, hby, ?_⟩
    simp only [rdA, rdB, Nat.reduceAdd, Nat.reduceSub, Nat.reduceLT, List.replicate]
    generalize Ql35.num bs = m at q ⊢
    refine ⟨m64 _ (by decide) (by decide) _, m, 8 * bs.length, 1, 5, by rw [ew]; rfl, by decide, by decide, by omega, by omega, ?_⟩
    simp only [rdA, rdB, Nat.reduceAdd, Nat.reduceSub, Nat.reduceLT, List.replicate, rNe, tKGet]
    generalize Ql35.bits (8 * bs.length) m 1 5 = f at q ⊢
    rw [look_fmt]
    have hd : (optI (if fmt f = 0 then none else some ((fmt f : Nat) : Int)) = V.int (n : Nat)) ↔ fmt f = n := by
      by_cases z : fmt f = 0
      · rw [if_pos z]
        constructor
        · intro h
          cases h
        · intro h
          omega
      · rw [if_neg z]
        constructor
        · intro h
          injection h with h
          omega
        · intro h
          rw [h]
          rfl
    refine ⟨by cases (if fmt f = 0 then none else some ((fmt f : Nat) : Int)) <;> rfl, ?_⟩
    by_cases c3 : fmt f ≠ bs.length
    · rw [if_pos c3] at q
      rw [if_pos (by simp only [hd, Bool.not_eq_true', decide_eq_false_iff_not]; omega)]
      exact q kl1 zs1 H1 x1 st1
    rw [if_neg c3] at q
    rw [if_neg (by simp only [hd, Bool.not_eq_true', decide_eq_false_iff_not]; omega)]
    have c3' : fmt f = bs.length := Decidable.of_not_not c3
    have hf : (bs.length = 7 ∧ (f = 4 ∨ f = 5 ∨ f = 11)) ∨ (bs.length = 14 ∧ (f = 17 ∨ f = 18 ∨ f = 20 ∨ f = 21)) := by
      unfold fmt at c3'
      split at c3'
      · omega
      · split at c3'
        · omega
        · omega
    have eh : (((f : Nat) : Int) ∈ ([4, 20] : List Int)) ↔ (f = 4 ∨ f = 20) := by
      simp only [List.mem_cons, List.not_mem_nil, or_false]
      omega
    have ei : (((f : Nat) : Int) ∈ ([5, 21] : List Int)) ↔ (f = 5 ∨ f = 21) := by
      simp only [List.mem_cons, List.not_mem_nil, or_false]
      omega
    by_cases c4 : (f = 4 ∨ f = 20) ∨ (f = 5 ∨ f = 21)
    · rw [if_pos c4] at q
      have fin : sp_take_reply A [.ref r, .int (m : Nat), .int (8 * ((n : Nat) : Int)), .int (f : Nat)] H1 Q E0 := by
        rw [ew]
        exact ⟨r, kl1, _, zs1, m, 8 * bs.length, f, rfl, hw, by omega, x1, fun kl' zs' H' a c => q kl' zs' H' a (st1.trans c)⟩
      refine rin_ints (ns := [4, 20]) (T.sq_HEIGHT_FORMATS.sq H1) ⟨_, rfl, ?_⟩
      rw [if_neg Bool.false_ne_true]
      by_cases c5 : f = 4 ∨ f = 20
      · rw [if_pos (by simp only [eh, c5, decide_true])]
        simp only [rdA, rdB, Nat.reduceAdd, Nat.reduceSub, Nat.reduceLT, List.replicate, rdC, fd_Receiver, tc_Receiver T, ob1, if_true]
        exact ⟨m64 _ (by decide) (by decide) _, fin⟩
      · rw [if_neg (by simp only [eh, c5, decide_false]; decide)]
        refine rin_ints (ns := [5, 21]) (T.sq_IDENTITY_FORMATS.sq H1) ⟨_, rfl, ?_⟩
        rw [if_neg Bool.false_ne_true, if_pos (by simp only [ei, c4.resolve_left c5, decide_true])]
        simp only [rdA, rdB, Nat.reduceAdd, Nat.reduceSub, Nat.reduceLT, List.replicate, rdC, fd_Receiver, tc_Receiver T, ob1, if_true]
        exact ⟨m64 _ (by decide) (by decide) _, fin⟩
    · rw [if_neg c4] at q
      have c5 : ¬ (f = 4 ∨ f = 20) := fun z => c4 (.inl z)
      have c6 : ¬ (f = 5 ∨ f = 21) := fun z => c4 (.inr z)
      have fin : sp_take_squitter A [.ref r, .int (m : Nat), .int (8 * ((n : Nat) : Int)), .int (f : Nat)] H1 Q E0 := by
        rw [ew]
        exact ⟨r, kl1, _, zs1, m, 8 * bs.length, f, rfl, by omega, x1, fun kl' zs' H' a c => q kl' zs' H' a (st1.trans c)⟩
      refine rin_ints (ns := [4, 20]) (T.sq_HEIGHT_FORMATS.sq H1) ⟨_, rfl, ?_⟩
      rw [if_neg Bool.false_ne_true, if_neg (by simp only [eh, c5, decide_false]; decide)]
      refine rin_ints (ns := [5, 21]) (T.sq_IDENTITY_FORMATS.sq H1) ⟨_, rfl, ?_⟩
      rw [if_neg Bool.false_ne_true, if_neg (by simp only [ei, c6, decide_false]; decide)]
      simp only [rdA, rdB, Nat.reduceAdd, Nat.reduceSub, Nat.reduceLT, List.replicate, rdC, fd_Receiver, tc_Receiver T, ob1, if_true]
      exact ⟨m64 _ (by decide) (by decide) _, fin⟩
end
end Ph

namespace Ph
open PySem L2
section
variable {P : Program} {w : World} {K : PySem.W.Frag} {mg : Str → Option Value} {base : Heap} {A : Ad}
def sp_tell_numbers (A : Ad) : Sp := fun vs H Q _ => ∃ (r kl : Addr) (s : Ql35.St) (zs : Known) (i : Nat), vs = [.ref r, .int i] ∧ Rc A H r s kl zs ∧ Good s ∧ ∀ l H', Same H H' → H l = none → H' l = some (.lst ((atPy s i).map V.int)) → Q (.ref l) H'
theorem ok_Receiver_tell_numbers (T : Txt K mg A) : FnOk P w K mg base CX0 2 A.f_Receiver_tell_numbers A.d_Receiver_tell_numbers ["self", "i"] (sp_tell_numbers A) := by
  refine T.fn_Receiver_tell_numbers.ok sc_Receiver_tell_numbers (fun vs H Q E h => ?_) (fun cdv A' outer s H vs Q E hr h => ?_)
  · obtain ⟨r, kl, s, zs, i, rfl, _⟩ := h
    rfl
  · obtain ⟨r, kl, s, zs, i, rfl, x, hg, q⟩ := h
    obtain ⟨dx, ob⟩ := x.ob
    have nd := sc_Receiver_tell_numbers.nd
    refine ⟨_, (pss_cons (ps_if (pt_cmpR op_ge (pv 1) (pe_callB call_len_seq (by rfl) T.nb_len bt_len (pa_cons (pe_fld (pv 0) rfl) pa_nil)) (nomark _)) (pss_one (ps_ret (pe_lst (pa_cons (pe_gI rfl T.gi_NOBODY) pa_nil)))) pss_nil)
      (pss_one (ps_ret (pe_op op_cat (pe_lst (pa_cons (pe_gI rfl T.gi_TOLD) pa_nil)) (pe_meth (pe_ix ix_list (pe_fld (pv 0) rfl) (pv 1) (fun _ _ => rfl)) T.cl_Aircraft T.me_Aircraft_numbers_at (ok_Aircraft_numbers_at T) (hr.mono (by decide)) (b_Aircraft_numbers_at T) .nil pass0 (pa_cons (pe_fld (pv 0) rfl) pa_nil)))))), ?_⟩
    unfold atPy at q
    simp only [rdA, rdB, Nat.reduceAdd, Nat.reduceSub, Nat.reduceLT, List.replicate, rdC, fd_Receiver, tc_Receiver T, ob]
    refine ⟨_, .inl (SqL.of x.kn), ?_⟩
    rw [List.length_map]
    by_cases c : zs.length ≤ i
    · rw [if_pos (decide_eq_true (by omega))]
      have e : s.crafts[i]? = none := by rw [← x.st, List.getElem?_eq_none (by rw [List.length_map]; exact c)]
      rw [e] at q
      simp only [rdA, rdB, Nat.reduceAdd, Nat.reduceSub, Nat.reduceLT, List.replicate, tLst]
      exact ⟨by decide, fun l hl => q l _ (Same.new hl) hl upd_same⟩
    · rw [if_neg (by simp only [decide_eq_true_eq]; omega)]
      have hz : zs[i]? = some zs[i] := List.getElem?_eq_getElem (by omega)
      generalize zs[i] = z at hz
      have hzm := List.mem_of_getElem? hz
      have e : s.crafts[i]? = some z.2.2 := by rw [← x.st, List.getElem?_map, hz]; rfl
      rw [e] at q
      simp only [rdA, rdB, Nat.reduceAdd, Nat.reduceSub, Nat.reduceLT, List.replicate, tLst]
      refine ⟨by decide, fun l0 h0 => ?_⟩
      have s0 : Same H (upd H l0 (.lst [V.int 0])) := Same.new h0
      have x0 := x.same s0
      obtain ⟨dx0, ob0⟩ := x0.ob
      have hle := hg z.2.2 (by rw [← x.st]; exact List.mem_map_of_mem hzm)
      have hc0 := x0.cr z hzm
      obtain ⟨dz, nm, pl, ph, he, ho, a, b⟩ := id hc0
      unfold craftO at a
      simp only [rdA, rdB, Nat.reduceAdd, Nat.reduceSub, Nat.reduceLT, List.replicate, rdC, fd_Receiver, tc_Receiver T, ob0]
      refine ⟨kl, _, _, V.ref z.1, rfl, rfl, SqL.of x0.kn, atI_nat (by rw [List.getElem?_map, hz]; rfl), ?_⟩
      simp only [rdA, rdB, Nat.reduceAdd, Nat.reduceSub, Nat.reduceLT, List.replicate, rdC, fd_Receiver, tc_Receiver T, rdC, fd_Aircraft, tc_Aircraft T, ob0, a]
      refine ⟨z.1, z.2.1, z.2.2, s.now, rfl, hc0, hle, fun l1 H1 s1 h1 => ?_⟩
      refine ⟨l0, l1, _, _, rfl, rfl, s1 _ _ upd_same, h1, by rw [List.length_map, told_len]; decide, fun l2 h2 => ?_⟩
      exact q l2 _ ((s0.trans s1).trans (Same.new h2)) ((s0.trans s1).free h2) upd_same
def sp_tell_name (A : Ad) : Sp := fun vs H Q _ => ∃ (r kl : Addr) (s : Ql35.St) (zs : Known) (i : Nat), vs = [.ref r, .int i] ∧ Rc A H r s kl zs ∧ ∀ l H', Same H H' → H l = none → H' l = some (.lst ((namePy s i).map V.int)) → Q (.ref l) H'
theorem ok_Receiver_tell_name (T : Txt K mg A) : FnOk P w K mg base CX0 1 A.f_Receiver_tell_name A.d_Receiver_tell_name ["self", "i"] (sp_tell_name A) := by
  refine T.fn_Receiver_tell_name.ok sc_Receiver_tell_name (fun vs H Q E h => ?_) (fun cdv A' outer s H vs Q E hr h => ?_)
  · obtain ⟨r, kl, s, zs, i, rfl, _⟩ := h
    rfl
  · obtain ⟨r, kl, s, zs, i, rfl, x, q⟩ := h
    obtain ⟨dx, ob⟩ := x.ob
    have nd := sc_Receiver_tell_name.nd
    refine ⟨_, (pss_cons (ps_if (pt_cmpR op_ge (pv 1) (pe_callB call_len_seq (by rfl) T.nb_len bt_len (pa_cons (pe_fld (pv 0) rfl) pa_nil)) (nomark _)) (pss_one (ps_ret (pe_lst (pa_cons (pe_gI rfl T.gi_NOBODY) pa_nil)))) pss_nil)
      (pss_cons (ps_set (i := 2) nd rfl (Or.inl rfl) (pe_fld (pe_ix ix_list (pe_fld (pv 0) rfl) (pv 1) (fun _ _ => rfl)) rfl))
      (pss_one (ps_ret (pe_ifExp (pt_cmpR op_isN (pv 2) pe_non (nomark _)) (pe_lst (pa_cons (pe_gI rfl T.gi_NO_NAME) pa_nil)) (pe_op op_cat (pe_lst (pa_cons (pe_gI rfl T.gi_TOLD) pa_nil)) (pv 2))))))), ?_⟩
    unfold namePy at q
    simp only [rdA, rdB, Nat.reduceAdd, Nat.reduceSub, Nat.reduceLT, List.replicate, rdC, fd_Receiver, tc_Receiver T, ob]
    refine ⟨_, .inl (SqL.of x.kn), ?_⟩
    rw [List.length_map]
    by_cases c : zs.length ≤ i
    · rw [if_pos (decide_eq_true (by omega))]
      have e : s.crafts[i]? = none := by rw [← x.st, List.getElem?_eq_none (by rw [List.length_map]; exact c)]
      rw [e] at q
      simp only [rdA, rdB, Nat.reduceAdd, Nat.reduceSub, Nat.reduceLT, List.replicate, tLst]
      exact ⟨by decide, fun l hl => q l _ (Same.new hl) hl upd_same⟩
    · rw [if_neg (by simp only [decide_eq_true_eq]; omega)]
      have hz : zs[i]? = some zs[i] := List.getElem?_eq_getElem (by omega)
      generalize zs[i] = z at hz
      have hzm := List.mem_of_getElem? hz
      have e : s.crafts[i]? = some z.2.2 := by rw [← x.st, List.getElem?_map, hz]; rfl
      rw [e] at q
      obtain ⟨dz, nm, pl, ph, he, ho, a, b⟩ := x.cr z hzm
      unfold craftO at a
      refine ⟨kl, _, _, V.ref z.1, rfl, rfl, SqL.of x.kn, atI_nat (by rw [List.getElem?_map, hz]; rfl), ?_⟩
      simp only [rdA, rdB, Nat.reduceAdd, Nat.reduceSub, Nat.reduceLT, List.replicate, tLst, rdC, fd_Receiver, tc_Receiver T, rdC, fd_Aircraft, tc_Aircraft T, a]
      have hn := b.1
      cases en : z.2.2.name with
      | none =>
        rw [en] at hn
        dsimp only at q
        rw [en] at q
        cases (show nm = .non from hn)
        rw [if_pos (by decide)]
        exact ⟨by decide, fun l hl => q l _ (Same.new hl) hl upd_same⟩
      | some nl =>
        rw [en] at hn
        dsimp only at q
        rw [en] at q
        obtain ⟨e1, rfl, h1, h8⟩ := hn
        rw [if_neg (by simp)]
        refine ⟨by decide, fun l0 h0 => ?_⟩
        refine ⟨l0, e1, _, _, rfl, rfl, upd_same, Same.new h0 _ _ h1, by unfold bts; rw [List.length_map, h8]; decide, fun l2 h2 => ?_⟩
        refine q l2 _ ((Same.new h0).trans (Same.new h2)) ((Same.new h0).free h2) ?_
        rw [upd_same]
        unfold bts
        rw [List.map_cons, List.map_map]
        rfl
/-! ### one call of the list -/
theorem at_ints {ns : List Int} {k : Nat} {i : Int} (h : ns[k]? = some i) : atI (ns.map V.int) (k : Int) = some (.int i) := atI_nat (by rw [List.getElem?_map, h]; rfl)
def sp_size_of_call (K : PySem.W.Frag) : Sp := fun vs H Q _ => ∃ (a : Addr) (pre r : List Int) (c : List (List Int)), vs = [.ref a, .int (pre.length : Nat)] ∧ SqL K H a ((pre ++ (flat c ++ r)).map V.int) ∧ Form c ∧ Q (.int ((flat c).length : Nat)) H
theorem at_pre {pre l : List Int} (j : Nat) {i : Int} (h : l[j]? = some i) : (pre ++ l)[pre.length + j]? = some i := by
  rw [List.getElem?_append_right (by omega)]
  have e : pre.length + j - pre.length = j := by omega
  rw [e]
  exact h
theorem flat_head {c : List (List Int)} (h : Form c) (r : List Int) : ∃ k : Int, (flat c ++ r)[0]? = some k ∧ (k = 0 ∨ k = 1 ∨ k = 2 ∨ k = 3 ∨ k = 4 ∨ k = 5) ∧ (k = 1 → ∃ b : List Int, (flat c ++ r)[3]? = some (b.length : Int) ∧ (flat c).length = 4 + b.length) ∧ ((k = 3 ∨ k = 4 ∨ k = 5) → (flat c).length = 2) ∧ ((k = 0 ∨ k = 2) → (flat c).length = 1) := by
  cases h with
  | new => exact ⟨0, rfl, by decide, fun h => absurd h (by decide), fun h => absurd h (by decide), fun _ => rfl⟩
  | msg n t b => exact ⟨1, rfl, by decide, fun _ => ⟨b, rfl, by simp [flat]; omega⟩, fun h => absurd h (by decide), fun h => absurd h (by decide)⟩
  | count => exact ⟨2, rfl, by decide, fun h => absurd h (by decide), fun h => absurd h (by decide), fun _ => rfl⟩
  | find a => exact ⟨3, rfl, by decide, fun h => absurd h (by decide), fun _ => rfl, fun h => absurd h (by decide)⟩
  | at_ a => exact ⟨4, rfl, by decide, fun h => absurd h (by decide), fun _ => rfl, fun h => absurd h (by decide)⟩
  | name a => exact ⟨5, rfl, by decide, fun h => absurd h (by decide), fun _ => rfl, fun h => absurd h (by decide)⟩
theorem ok_size_of_call (T : Txt K mg A) : FnOk P w K mg base CX0 1 A.f_size_of_call A.d_size_of_call ["calls", "spot"] (sp_size_of_call K) := by
  refine T.fn_size_of_call.ok sc_size_of_call (fun vs H Q E h => ?_) (fun cdv A' outer s H vs Q E hr h => ?_)
  · obtain ⟨a, pre, r, c, rfl, _⟩ := h
    rfl
  · obtain ⟨a, pre, r, c, rfl, hS, hf, q⟩ := h
    have nd := sc_size_of_call.nd
    refine ⟨_, (pss_cons (ps_if (pt_cmpR op_eq (pe_ix ix_list (pv 0) (pv 1) (fun _ _ => rfl)) (pe_gI rfl T.gi_MESSAGE) (nomark _)) (pss_one (ps_ret (pe_op op_add pe_int (pe_ix ix_list (pv 0) (pe_op op_add (pv 1) pe_int) (fun _ _ => rfl))))) pss_nil)
      (pss_one (ps_ret (pe_ifExp (pt_cmpR op_in_seq (pe_ix ix_list (pv 0) (pv 1) (fun _ _ => rfl)) (pe_gR rfl T.gr_CALLS_WITH_ONE_NUMBER) rfl) pe_int pe_int)))), ?_⟩
    obtain ⟨k, h0, hk, h1, h2, h3⟩ := flat_head hf r
    have a0 := at_ints (at_pre (pre := pre) 0 h0)
    rw [Nat.add_zero] at a0
    simp only [rdA, rdB, Nat.reduceAdd, Nat.reduceSub, Nat.reduceLT, List.replicate, rEq, scal]
    refine ⟨a, _, _, _, rfl, rfl, hS, a0, ?_⟩
    simp only [rdA, rdB, Nat.reduceAdd, Nat.reduceSub, Nat.reduceLT, List.replicate, rEq, scal]
    by_cases c1 : k = 1
    · rw [if_pos (decide_eq_true c1)]
      obtain ⟨b, hb, hl⟩ := h1 c1
      have a3 := at_ints (at_pre (pre := pre) 3 hb)
      refine ⟨a, _, _, _, rfl, rfl, hS, a3, ?_⟩
      simp only [rdA, rdB, Nat.reduceAdd, Nat.reduceSub, Nat.reduceLT, List.replicate]
      have e : (4 : Int) + ((b.length : Nat) : Int) = (((flat c).length : Nat) : Int) := by omega
      rw [e]
      exact q
    · rw [if_neg (by simpa using c1)]
      refine ⟨a, _, _, _, rfl, rfl, hS, a0, ?_⟩
      refine rin_ints (ns := [3, 4, 5]) (T.sq_CALLS_WITH_ONE_NUMBER.sq H) ⟨_, rfl, ?_⟩
      rw [if_neg Bool.false_ne_true]
      have em : (k ∈ ([3, 4, 5] : List Int)) ↔ (k = 3 ∨ k = 4 ∨ k = 5) := by
        simp only [List.mem_cons, List.not_mem_nil, or_false]
      by_cases c2 : k = 3 ∨ k = 4 ∨ k = 5
      · rw [if_pos (by simp only [em, c2, decide_true])]
        rw [h2 c2] at q
        exact q
      · rw [if_neg (by simp only [em, c2, decide_false]; decide)]
        have hk' : k = 0 ∨ k = 2 := by
          clear h1 h2 h3
          omega
        rw [h3 hk'] at q
        exact q
end
end Ph

namespace Ph
open PySem L2
section
variable {P : Program} {w : World} {K : PySem.W.Frag} {mg : Str → Option Value} {base : Heap} {A : Ad}
theorem cut4 (a b c d : V) (l : List V) : cutV (a :: b :: c :: d :: l) (some 4) none = l := by
  have e : HT.sIx (a :: b :: c :: d :: l).length 0 (some 4) = min 4 (a :: b :: c :: d :: l).length := HT.sIx_nat _ _ 4
  unfold cutV
  rw [e, HT.sIx_none]
  have e2 : min 4 (a :: b :: c :: d :: l).length = 4 := by
    simp only [List.length_cons]
    omega
  rw [e2]
  show List.take _ l = l
  rw [List.take_of_length_le (by simp only [List.length_cons]; omega)]
theorem bts_nats {b : List Int} (h : ∀ x ∈ b, 0 ≤ x ∧ x ≤ 255) : b.map V.int = bts (Ql35Neutral.nats b) := by
  unfold bts Ql35Neutral.nats
  rw [List.map_map]
  refine List.map_congr_left fun x hx => ?_
  show V.int x = V.int ((x.toNat : Nat) : Int)
  rw [Int.toNat_of_nonneg (h x hx).1]
theorem Stp.not {H H' : Hp} {r kl kl' l : Addr} {zs zs' : Known} (st : Stp H H' r kl kl' zs zs') (hl : H' l = none) : ∀ g, H g ≠ none → g ∉ own r kl zs → g ≠ l := fun g hg ho e => by
  cases q : H g with
  | none => exact hg q
  | some o =>
    have := st.fr g o q (.inr ho)
    rw [e, hl] at this
    cases this
def sp_answer_of (A : Ad) : Sp := fun vs H Q _ => ∃ (r kl b : Addr) (s : Ql35.St) (zs : Known) (c : List (List Int)), vs = [.ref r, .ref b] ∧ Rc A H r s kl zs ∧ Good s ∧ Form c ∧ Ql35Neutral.may c = true ∧ H b = some (.lst ((flat c).map V.int)) ∧
  ∀ l kl' zs' H', Rc A H' r (Ql35Neutral.step s c).1 kl' zs' → Stp H H' r kl kl' zs zs' → (∀ g, H g ≠ none → g ∉ own r kl zs → g ≠ l) → H' l = some (.lst ((Ql35Neutral.step s c).2.map V.int)) → Q (.ref l) H'
theorem ok_answer_of (T : Txt K mg A) : FnOk P w K mg base CX0 12 A.f_answer_of A.d_answer_of ["receiver", "call"] (sp_answer_of A) := by
  refine T.fn_answer_of.ok sc_answer_of (fun vs H Q E h => ?_) (fun cdv A' outer s H vs Q E hr h => ?_)
  · obtain ⟨r, kl, b, s, zs, c, rfl, _⟩ := h
    rfl
  · obtain ⟨r, kl, b, s, zs, c, rfl, x, hg, hf, hm, hb, q⟩ := h
    obtain ⟨dx, ob⟩ := x.ob
    have nd := sc_answer_of.nd
    refine ⟨_, (pss_cons (ps_set (i := 2) nd rfl (Or.inl rfl) (pe_ix ix_list (pv 1) pe_int (fun _ _ => rfl)))
      (pss_cons (ps_if (pt_cmpR op_eq (pv 2) (pe_gI rfl T.gi_NEW) (nomark _)) (pss_cons (ps_expr (pe_meth0 (pv 0) T.cl_Receiver T.me_Receiver_begin (ok_Receiver_begin T) (hr.mono (by decide)) (b_Receiver_begin T) .nil pass0))
      (pss_one (ps_ret (pe_lst (pa_cons pe_int pa_nil))))) pss_nil)
      (pss_cons (ps_if (pt_cmpR op_eq (pv 2) (pe_gI rfl T.gi_MESSAGE) (nomark _)) (pss_one (ps_ret (pe_lst (pa_cons (pe_meth (pv 0) T.cl_Receiver T.me_Receiver_take_message (ok_Receiver_take_message T) (hr.mono (by decide)) (b_Receiver_take_message T) .nil pass0 (pa_cons (pe_ix ix_list (pv 1) pe_int (fun _ _ => rfl)) (pa_cons (pe_ix ix_list (pv 1) pe_int (fun _ _ => rfl)) (pa_cons (pe_slice sl_list (pv 1) (po_some pe_int) po_none) pa_nil)))) pa_nil)))) pss_nil)
      (pss_cons (ps_if (pt_cmpR op_eq (pv 2) (pe_gI rfl T.gi_COUNT) (nomark _)) (pss_one (ps_ret (pe_lst (pa_cons (pe_meth0 (pv 0) T.cl_Receiver T.me_Receiver_how_many (ok_Receiver_how_many T) (hr.mono (by decide)) (b_Receiver_how_many T) .nil pass0) pa_nil)))) pss_nil)
      (pss_cons (ps_if (pt_cmpR op_eq (pv 2) (pe_gI rfl T.gi_FIND) (nomark _)) (pss_one (ps_ret (pe_lst (pa_cons (pe_meth (pv 0) T.cl_Receiver T.me_Receiver_spot_of (ok_Receiver_spot_of T) (hr.mono (by decide)) (b_Receiver_spot_of T) .nil pass0 (pa_cons (pe_ix ix_list (pv 1) pe_int (fun _ _ => rfl)) pa_nil)) pa_nil)))) pss_nil)
      (pss_cons (ps_if (pt_cmpR op_eq (pv 2) (pe_gI rfl T.gi_AT) (nomark _)) (pss_one (ps_ret (pe_meth (pv 0) T.cl_Receiver T.me_Receiver_tell_numbers (ok_Receiver_tell_numbers T) (hr.mono (by decide)) (b_Receiver_tell_numbers T) .nil pass0 (pa_cons (pe_ix ix_list (pv 1) pe_int (fun _ _ => rfl)) pa_nil)))) pss_nil)
      (pss_cons (ps_if (pt_cmpR op_eq (pv 2) (pe_gI rfl T.gi_NAME) (nomark _)) (pss_one (ps_ret (pe_meth (pv 0) T.cl_Receiver T.me_Receiver_tell_name (ok_Receiver_tell_name T) (hr.mono (by decide)) (b_Receiver_tell_name T) .nil pass0 (pa_cons (pe_ix ix_list (pv 1) pe_int (fun _ _ => rfl)) pa_nil)))) pss_nil)
      (pss_one ps_never)))))))), ?_⟩
    cases hf with
    | new =>
      rw [step_new] at q
      simp only [rdA, rdB, Nat.reduceAdd, Nat.reduceSub, Nat.reduceLT, List.replicate, rEq, scal, tLst, rdC, fd_Receiver, tc_Receiver T, ob]
      refine ⟨b, _, _, .int 0, rfl, rfl, SqL.of hb, rfl, ?_⟩
      simp only [rdA, rdB, Nat.reduceAdd, Nat.reduceSub, Nat.reduceLT, List.replicate, rEq, scal, tLst, rdC, fd_Receiver, tc_Receiver T, ob, Int.reduceEq, decide_true, decide_false, if_true, if_false, Bool.false_eq_true]
      exact ⟨r, kl, s, zs, rfl, x, fun kl' H' x' st => ⟨by decide, fun l hl => q l kl' [] _ (x'.same (Same.new hl)) (st.trans (.same (Same.new hl))) (st.not hl) upd_same⟩⟩
    | msg n t bb =>
      obtain ⟨hn, ht, hbb, hlen⟩ := may_msg hm
      have hl' : n.toNat = 7 ∨ n.toNat = 14 → (Ql35Neutral.nats bb).length = n.toNat := fun h => by
        have e : n = 7 ∨ n = 14 := by omega
        rw [if_pos e] at hlen
        unfold Ql35Neutral.nats
        rw [List.length_map]
        omega
      rw [step_msg s n t bb hl'] at q
      obtain ⟨n', rfl⟩ : ∃ n' : Nat, n = n' := ⟨n.toNat, by omega⟩
      obtain ⟨t', rfl⟩ : ∃ t' : Nat, t = t' := ⟨t.toNat, by omega⟩
      rw [Int.toNat_natCast, Int.toNat_natCast] at q
      rw [Int.toNat_natCast] at hl'
      have hb' : H b = some (.lst (.int 1 :: .int (n' : Nat) :: .int (t' : Nat) :: .int (bb.length : Nat) :: bb.map V.int)) := hb
      simp only [rdA, rdB, Nat.reduceAdd, Nat.reduceSub, Nat.reduceLT, List.replicate, rEq, scal, tLst, rdC, fd_Receiver, tc_Receiver T, ob]
      refine ⟨b, _, _, .int 1, rfl, rfl, SqL.of hb', at_of (j := 0) rfl rfl, ?_⟩
      simp only [rdA, rdB, Nat.reduceAdd, Nat.reduceSub, Nat.reduceLT, List.replicate, rEq, scal, tLst, rdC, fd_Receiver, tc_Receiver T, ob, Int.reduceEq, decide_true, decide_false, if_true, if_false, Bool.false_eq_true]
      refine ⟨b, _, _, .int (n' : Nat), rfl, rfl, SqL.of hb', at_of (j := 1) rfl rfl, b, _, _, .int (t' : Nat), rfl, rfl, SqL.of hb', at_of (j := 2) rfl rfl, ?_⟩
      simp only [rdA, rdB, Nat.reduceAdd, Nat.reduceSub, Nat.reduceLT, List.replicate, tSl, tNoPart, tPart, rSlL]
      refine ⟨_, SqL.of hb', fun p hp => ?_⟩
      rw [cut4, bts_nats hbb]
      have s1 : Same H (upd H p (.lst (bts (Ql35Neutral.nats bb)))) := Same.new hp
      refine ⟨r, kl, p, s, zs, n', t', Ql35Neutral.nats bb, rfl, x.same s1, upd_same, fun m => x.all m hp, hl', fun y hy => ?_, fun kl' zs' H' x' st => ?_⟩
      · unfold Ql35Neutral.nats at hy
        obtain ⟨z, hz, rfl⟩ := List.mem_map.mp hy
        have := hbb z hz
        omega
      · exact ⟨by decide, fun l hl => q l kl' zs' _ (x'.same (Same.new hl)) (((Stp.same s1).trans st).trans (.same (Same.new hl))) (((Stp.same s1).trans st).not hl) upd_same⟩
    | count =>
      rw [step_count] at q
      simp only [rdA, rdB, Nat.reduceAdd, Nat.reduceSub, Nat.reduceLT, List.replicate, rEq, scal, tLst, rdC, fd_Receiver, tc_Receiver T, ob]
      refine ⟨b, _, _, .int 2, rfl, rfl, SqL.of hb, rfl, ?_⟩
      simp only [rdA, rdB, Nat.reduceAdd, Nat.reduceSub, Nat.reduceLT, List.replicate, rEq, scal, tLst, rdC, fd_Receiver, tc_Receiver T, ob, Int.reduceEq, decide_true, decide_false, if_true, if_false, Bool.false_eq_true]
      exact ⟨r, kl, s, zs, rfl, x, by decide, fun l hl => q l kl zs _ (x.same (Same.new hl)) (.same (Same.new hl)) (Stp.not (.refl _ _ _ _) hl) upd_same⟩
    | find a =>
      rw [step_find] at q
      obtain ⟨a', rfl⟩ : ∃ a' : Nat, a = a' := by
        unfold Ql35Neutral.may Ql35Neutral.u32 NeutralIO.within at hm
        simp only [Bool.and_eq_true, decide_eq_true_eq] at hm
        exact ⟨a.toNat, by omega⟩
      rw [Int.toNat_natCast] at q
      simp only [rdA, rdB, Nat.reduceAdd, Nat.reduceSub, Nat.reduceLT, List.replicate, rEq, scal, tLst, rdC, fd_Receiver, tc_Receiver T, ob]
      refine ⟨b, _, _, .int 3, rfl, rfl, SqL.of hb, rfl, ?_⟩
      simp only [rdA, rdB, Nat.reduceAdd, Nat.reduceSub, Nat.reduceLT, List.replicate, rEq, scal, tLst, rdC, fd_Receiver, tc_Receiver T, ob, Int.reduceEq, decide_true, decide_false, if_true, if_false, Bool.false_eq_true]
      refine ⟨b, _, _, .int (a' : Nat), rfl, rfl, SqL.of hb, rfl, ?_⟩
      simp only [rdA, rdB, Nat.reduceAdd, Nat.reduceSub, Nat.reduceLT, List.replicate, rEq, scal, tLst, rdC, fd_Receiver, tc_Receiver T, ob]
      refine ⟨r, kl, s, zs, a', rfl, x, fun H' s' => ?_⟩
      simp only [rdA, rdB, Nat.reduceAdd, Nat.reduceSub, Nat.reduceLT, List.replicate]
      have e : spotOf zs a' = findPy s a' := by
        unfold spotOf findPy
        rw [← x.st, List.findIdx?_map]
        rfl
      rw [e]
      exact ⟨by decide, fun l hl => q l kl zs _ ((x.same s').same (Same.new hl)) (.same (s'.trans (Same.new hl))) (Stp.not (.same s') hl) upd_same⟩
    | at_ a =>
      rw [step_at] at q
      obtain ⟨a', rfl⟩ : ∃ a' : Nat, a = a' := by
        unfold Ql35Neutral.may Ql35Neutral.u32 NeutralIO.within at hm
        simp only [Bool.and_eq_true, decide_eq_true_eq] at hm
        exact ⟨a.toNat, by omega⟩
      rw [Int.toNat_natCast] at q
      simp only [rdA, rdB, Nat.reduceAdd, Nat.reduceSub, Nat.reduceLT, List.replicate, rEq, scal, tLst, rdC, fd_Receiver, tc_Receiver T, ob]
      refine ⟨b, _, _, .int 4, rfl, rfl, SqL.of hb, rfl, ?_⟩
      simp only [rdA, rdB, Nat.reduceAdd, Nat.reduceSub, Nat.reduceLT, List.replicate, rEq, scal, tLst, rdC, fd_Receiver, tc_Receiver T, ob, Int.reduceEq, decide_true, decide_false, if_true, if_false, Bool.false_eq_true]
      refine ⟨b, _, _, .int (a' : Nat), rfl, rfl, SqL.of hb, rfl, ?_⟩
      simp only [rdA, rdB, Nat.reduceAdd, Nat.reduceSub, Nat.reduceLT, List.replicate, rEq, scal, tLst, rdC, fd_Receiver, tc_Receiver T, ob]
      exact ⟨r, kl, s, zs, a', rfl, x, hg, fun l H' s' hn hl => q l kl zs _ (x.same s') (.same s') (Stp.not (.refl _ _ _ _) hn) hl⟩
    | name a =>
      rw [step_name] at q
      obtain ⟨a', rfl⟩ : ∃ a' : Nat, a = a' := by
        unfold Ql35Neutral.may Ql35Neutral.u32 NeutralIO.within at hm
        simp only [Bool.and_eq_true, decide_eq_true_eq] at hm
        exact ⟨a.toNat, by omega⟩
      rw [Int.toNat_natCast] at q
      simp only [rdA, rdB, Nat.reduceAdd, Nat.reduceSub, Nat.reduceLT, List.replicate, rEq, scal, tLst, rdC, fd_Receiver, tc_Receiver T, ob]
      refine ⟨b, _, _, .int 5, rfl, rfl, SqL.of hb, rfl, ?_⟩
      simp only [rdA, rdB, Nat.reduceAdd, Nat.reduceSub, Nat.reduceLT, List.replicate, rEq, scal, tLst, rdC, fd_Receiver, tc_Receiver T, ob, Int.reduceEq, decide_true, decide_false, if_true, if_false, Bool.false_eq_true]
      refine ⟨b, _, _, .int (a' : Nat), rfl, rfl, SqL.of hb, rfl, ?_⟩
      simp only [rdA, rdB, Nat.reduceAdd, Nat.reduceSub, Nat.reduceLT, List.replicate, rEq, scal, tLst, rdC, fd_Receiver, tc_Receiver T, ob]
      exact ⟨r, kl, s, zs, a', rfl, x, fun l H' s' hn hl => q l kl zs _ (x.same s') (.same s') (Stp.not (.refl _ _ _ _) hn) hl⟩
end
end Ph

namespace Ph
open PySem PySem.W PySem.Calls PyProof.Rows L2
/-! ### the head of a row with a specification: one argument, a list of whole numbers; the answer a list of whole numbers -/
/-- what is wanted of the answer -/
def AnsIs (ans : List Int) : VK := fun v H => ∃ l : Addr, v = .ref l ∧ H l = some (.lst (ans.map V.int))
theorem readsAll_ints {R : WRecords} {cl : Str → Option Addr} {h : Heap} : ∀ {us : List Value} {ns : List Int}, Vals (ns.map V.int) us → ReadsAllW R cl h us (ns.map WData.int) []
  | _, [], r => by cases r; exact .nil
  | _, n :: ns, r => by
    cases r with
    | cons a b =>
      obtain ⟨t, rfl⟩ := a
      exact .cons (as := []) (bs := []) (.int n t) (readsAll_ints b)
theorem spec_call {P : Program} {w : World} {K : Frag} {mg mb : Str → Option Value} {k : Nat} {fa a : Addr} {fd : FuncData} {x : Str} {sp : Sp} {s₁ : Shared} {vs : List Value} {ns ans : List Int}
    (KX : K.In s₁.heap) (hns : s₁.heap.Ns mainGlobals mg) (hb : s₁.heap.Ns builtinsNs mb) (hbb : ∀ x : Str, x ≠ "__name__" → mb x = bootBuiltins x) (hlim : s₁.heap.NoLimit) (hg : s₁.gens = #[])
    (ha : s₁.heap.get? a = some { cls := .type "list", data := .seq vs.toArray }) (hi : IntsAre vs ns) (hl : ns.length ≤ sizeLine) (hr : Room k callerA)
    (F : ∀ base : Heap, K.In base → base.Ns mainGlobals mg → FnOk P w K mg base CX0 k fa fd [x] sp) (hbind : ∀ (s : Shared) (u : Value), BindsTo s fd ⟨[u], []⟩ [(x, u)])
    (hsp : ∀ H : Hp, Only H → SqL K H a (ns.map V.int) → sp [.ref a] H (AnsIs ans) fun _ _ _ => False) :
    codeAny (model P w) callerA (.call (.ref fa) ⟨[.ref a], []⟩) (fun r s' => (∃ (l : Addr) (us : List Value) (n : Nat), r = .ok (.ret (.ref l)) ∧ s'.heap.get? l = some { cls := .type "list", data := .seq us.toArray n } ∧ Vals (ans.map V.int) us) ∧ OldK s₁.heap s'.heap ∧ s'.os = s₁.os ∧ AllBare s'.gens) s₁ := by
  have rv := vals_ints hi
  have lenV := hi.length
  have core : ∀ H : Hp, Only H → SqL K H a (ns.map V.int) → HOk P w H s₁.heap → (∀ b, H b ≠ none → b = a) → (H a ≠ none → K.lookup a = none) →
      codeAny (model P w) callerA (.call (.ref fa) ⟨[.ref a], []⟩) (fun r s' => (∃ (l : Addr) (us : List Value) (n : Nat), r = .ok (.ret (.ref l)) ∧ s'.heap.get? l = some { cls := .type "list", data := .seq us.toArray n } ∧ Vals (ans.map V.int) us) ∧ OldK s₁.heap s'.heap ∧ s'.os = s₁.os ∧ AllBare s'.gens) s₁ := by
    intro H hO hS hok hA hK
    have base_of : ∀ {b : Addr} {o : Obj}, s₁.heap.get? b = some o → H b = none → (hidT s₁.heap H).get? b = some o := fun e n => hidT_get e n
    have noA : ∀ {b : Addr} {o : Obj} {es : Array DictEntry} {ep : Nat}, s₁.heap.get? b = some o → o.data = .dict es ep → H b = none := fun {b o es ep} e d => by
      cases q : H b with
      | none => rfl
      | some u =>
        have e' : b = a := hA b (by rw [q]; simp)
        subst e'
        rw [ha] at e; cases e
        have d' : Data.seq vs.toArray _ = Data.dict es ep := d
        cases d'
    have nsK : ∀ {b : Addr} {m : Str → Option Value}, s₁.heap.Ns b m → (hidT s₁.heap H).Ns b m := fun {b m} ⟨o, es, ep, e, d, r⟩ => ⟨o, es, ep, base_of e (noA e d), d, r⟩
    have hKb : K.In (hidT s₁.heap H) := fun b o e => base_of (KX b o e) (by
      cases q : H b with
      | none => rfl
      | some u =>
        have e' : b = a := hA b (by rw [q]; simp)
        subst e'
        rw [hK (by rw [q]; simp)] at e; cases e)
    have hM : Mod K mg (hidT s₁.heap H) := ⟨hKb, nsK hns, ⟨mb, nsK hb, hbb⟩, let ⟨mc, h1, h2⟩ := hlim; ⟨mc, nsK h1, h2⟩⟩
    have e0 : Env0 P w K mg (hidT s₁.heap H) callerA [] s₁ H := ⟨rfl, hM, fun b o e => of_hidT e, Nat.le_of_eq (hidT_size _ _), trivial, fun b hb => absurd (show b ∈ ([] : List Addr) from hb) (by simp), hok, .of_eq hg⟩
    refine codeAny_mono ((F _ hKb (nsK hns)).run callerA [] s₁ H ⟨[.ref a], []⟩ [.ref a] [.ref a] _ _ hr e0 (hbind s₁ (.ref a)) (.cons rfl .nil) (hsp H hO hS)) fun r s' h => ?_
    cases r with
    | error e => exact False.elim h
    | ok fl =>
      cases fl with
      | next => exact False.elim h
      | brk => exact False.elim h
      | cont => exact False.elim h
      | ret u =>
        obtain ⟨v, H', os, bare, un, hok', r', q⟩ := h
        obtain ⟨l, rfl, hl'⟩ := q
        obtain rfl : u = Value.ref l := r'
        obtain ⟨_, its, n, rel, hobj⟩ := (show ObjOk P w H' s'.heap l (.lst (ans.map V.int)) from hok' l _ hl')
        refine ⟨⟨l, its, n, rfl, hobj, rel⟩, OldK.of_keep fun b o e => ?_, os, bare⟩
        cases q : H b with
        | none => exact un.keep b o e q (by intro z; exact absurd (show b ∈ ([] : List Addr) from z) (by simp)) (by simp)
        | some u =>
          rcases hO b with z | ⟨ob, xs, z⟩
          · rw [q] at z; cases z
          · have z2 := un.frzs b ob _ z
            obtain ⟨e1, _⟩ := hok b _ z
            obtain ⟨e2, _⟩ := hok' b _ z2
            rw [e] at e1; cases e1
            exact e2
  cases hk : K.lookup a with
  | some o =>
    have e := KX a o hk
    rw [ha] at e
    cases e
    refine core (fun _ => none) (fun _ => .inl rfl) (.inr ⟨_, vs.toArray, _, hk, rfl, rfl, rfl, by rw [List.size_toArray, lenV]; exact hl, by simpa using rv⟩) (fun b u z => by have z' : (none : Option HO) = some u := z; cases z') (fun b z => absurd rfl z) fun z => absurd rfl z
  | none =>
    refine core (fun b => if b = a then some (.frz { cls := .type "list", data := .seq vs.toArray } (.lst (ns.map V.int))) else none) (fun b => ?_) (.inl (.inr ⟨{ cls := .type "list", data := .seq vs.toArray }, if_pos rfl⟩)) (fun b u z => ?_) (fun b z => ?_) fun _ => hk
    · by_cases hb : b = a
      · exact .inr ⟨_, _, if_pos hb⟩
      · exact .inl (if_neg hb)
    · by_cases hb : b = a
      · have z' := (if_pos hb).symm.trans z
        cases z'
        subst hb
        exact ⟨ha, by rw [List.length_map]; exact hl, vs, _, rv, ha⟩
      · have z' := (if_neg hb).symm.trans z
        cases z'
    · by_cases hb : b = a
      · exact hb
      · exact absurd (if_neg hb) z
/-- the arguments: one list of whole numbers within the bounds -/
theorem args_of {r : OpenSpec} {least most : Nat} {lo hi : Int} (hA : r.args = [.list least most (.int lo hi)]) {P : Params} {h : Heap} {args : List WData} {vals : List Value}
    (hpre : r.pre args = true) (hwl : WellAll P h vals args) :
    ∃ (a : Addr) (vs : List Value) (ns : List Int), vals = [Value.ref a] ∧ args = [WData.list (ns.map WData.int)] ∧ h.get? a = some { cls := .type "list", data := .seq vs.toArray } ∧ IntsAre vs ns := by
  have hsh := os_shapes args hpre
  rw [hA] at hsh
  obtain ⟨d, rr, rfl, h1, h2⟩ := hasAllW_cons hsh
  obtain rfl := hasAllW_nil h2
  obtain ⟨xs, rfl, h3⟩ := hasW_list h1
  obtain ⟨ns, rfl⟩ := items_int h3
  cases hwl with
  | cons w1 w2 =>
    cases w2
    cases w1 with
    | list ho hall => exact ⟨_, _, ns, rfl, rfl, ho, Att.ints_of_wellAll ns _ hall⟩
/-- the goal that the head leaves (case hc), from the promise of the def -/
theorem walk_spec {r : OpenSpec} {least most n k : Nat} {lo hi : Int} {q : Program} {loose : List Str} {XP : (Str → Option Value) → Heap → Prop} {YP : World → Heap → Prop} {d : DefRec} {K : Params → Frag} {sp : Frag → Sp} {x : Str} {ans : List Int → List Int}
    (hA : r.args = [.list least most (.int lo hi)]) (hn2 : n ≤ sizeLine) (hdf : d.params.defaults = []) (hr : Room k callerA)
    (hY : ∀ (w : World) (h : Heap), YP w h → (K w.params).In h)
    (hpost : ∀ ns : List Int, r.pre [.list (ns.map WData.int)] = true → ns.length ≤ n ∧ r.post [.list (ns.map WData.int)] (.list ((ans ns).map WData.int)) = true)
    (F : ∀ (w : World) (mg : Str → Option Value) (fa : Addr) (h : Heap), (K w.params).In h → h.Ns mainGlobals mg → mg d.name = some (.ref fa) →
      ∃ fd : FuncData, (∀ (s : Shared) (u : Value), BindsTo s fd ⟨[u], []⟩ [(x, u)]) ∧
        ∀ base : Heap, (K w.params).In base → base.Ns mainGlobals mg → FnOk r.prog w (K w.params) mg base CX0 k fa fd [x] (sp (K w.params)))
    (hsp : ∀ (K : Frag) (H : Hp) (a : Addr) (ns : List Int), r.pre [.list (ns.map WData.int)] = true → Only H → SqL K H a (ns.map V.int) → sp K [.ref a] H (AnsIs (ans ns)) fun _ _ _ => False) :
    WalkOS q loose XP YP r d [] (fun f vs => PySem.call f vs) := by
  intro w s₀ s₁ mg mb G Y fa o pm cd doc dV kV ho hd hcd hD hmg hg args vals as hpre hlay hrd hwl hlo
  obtain ⟨a, vs, ns, rfl, rfl, hobj, hints⟩ := args_of hA hpre hwl
  have KX := hY w _ Y
  obtain ⟨fd, hb, hF⟩ := F w mg fa _ KX G.T.g hmg
  obtain ⟨hlen, hp⟩ := hpost ns hpre
  refine enter_call (codeAny_mono (spec_call KX G.T.g G.T.b G.T.builtins G.T.nolimit hg hobj hints (Nat.le_trans hlen hn2) hr hF hb (ans := ans ns) fun H hO hS => hsp (K w.params) H a ns hpre hO hS) fun res s' hq => ?_)
  obtain ⟨⟨l, us, m, rfl, ho', rel⟩, old, os, bare⟩ := hq
  exact ⟨.inl ⟨.ref l, .list ((ans ns).map WData.int), _, rfl, osNone, .list ho' rfl rfl (readsAll_ints rel), osPost hp, fun h => absurd h Bool.false_ne_true⟩, old, os, bare⟩
end Ph

namespace Ph
open PySem L2
section
variable {P : Program} {w : World} {K : PySem.W.Frag} {mg : Str → Option Value} {base : Heap} {A : Ad}
theorem cutMid (pre l r : List V) : cutV (pre ++ (l ++ r)) (some ((pre.length : Nat) : Int)) (some (((pre.length : Nat) : Int) + ((l.length : Nat) : Int))) = l := by
  have e0 : ((pre.length : Nat) : Int) + ((l.length : Nat) : Int) = ((pre.length + l.length : Nat) : Int) := by omega
  have e1 := HT.sIx_nat (pre ++ (l ++ r)).length 0 pre.length
  have e2 := HT.sIx_nat (pre ++ (l ++ r)).length (pre ++ (l ++ r)).length (pre.length + l.length)
  unfold cutV
  rw [e0, e1, e2]
  have h1 : min pre.length (pre ++ (l ++ r)).length = pre.length := by
    simp only [List.length_append]
    omega
  have h2 : min (pre.length + l.length) (pre ++ (l ++ r)).length = pre.length + l.length := by
    simp only [List.length_append]
    omega
  rw [h1, h2, List.drop_left]
  have h3 : pre.length + l.length - pre.length = l.length := by omega
  rw [h3, List.take_left]
theorem good_step {s : Ql35.St} {c : List (List Int)} (hf : Form c) (hm : Ql35Neutral.may c = true) (h : Good s) : Good (Ql35Neutral.step s c).1 := by
  cases hf with
  | new => exact good_empty
  | msg n t b =>
    obtain ⟨hn, ht, hbb, hlen⟩ := may_msg hm
    rw [step_msg s n t b (fun h => by
      have e : n = 7 ∨ n = 14 := by omega
      rw [if_pos e] at hlen
      unfold Ql35Neutral.nats
      rw [List.length_map]
      omega)]
    exact good_take h
  | count => exact h
  | find a => rw [step_find]; exact h
  | at_ a => rw [step_at]; exact h
  | name a => rw [step_name]; exact h
theorem Rc.names {H : Hp} {r kl : Addr} {s : Ql35.St} {zs : Known} (x : Rc A H r s kl zs) : ∀ c ∈ s.crafts, ∀ l, c.name = some l → l.length = 8 := by
  intro c hc l hl
  rw [← x.st] at hc
  obtain ⟨z, hz, rfl⟩ := List.mem_map.mp hc
  obtain ⟨dz, nm, pl, ph, he, ho, a, b⟩ := x.cr z hz
  have hn := b.1
  rw [hl] at hn
  obtain ⟨_, _, _, h8⟩ := hn
  exact h8
theorem step_len {s : Ql35.St} {c : List (List Int)} (hf : Form c) (hm : Ql35Neutral.may c = true) (hn : ∀ c ∈ s.crafts, ∀ l, c.name = some l → l.length = 8) : (Ql35Neutral.step s c).2.length ≤ 10 := by
  cases hf with
  | new => rw [step_new]; decide
  | msg n t b =>
    obtain ⟨_, ht, hbb, hlen⟩ := may_msg hm
    rw [step_msg s n t b (fun h => by
      have e : n = 7 ∨ n = 14 := by omega
      rw [if_pos e] at hlen
      unfold Ql35Neutral.nats
      rw [List.length_map]
      omega)]
    show 1 ≤ 10
    decide
  | count => rw [step_count]; show 1 ≤ 10; decide
  | find a => rw [step_find]; show 1 ≤ 10; decide
  | at_ a =>
    rw [step_at]
    show (atPy s a.toNat).length ≤ 10
    unfold atPy
    split
    · rw [List.length_cons, told_len]; decide
    · decide
  | name a =>
    rw [step_name]
    show (namePy s a.toNat).length ≤ 10
    unfold namePy
    cases e : s.crafts[a.toNat]? with
    | none => decide
    | some c =>
      dsimp only
      cases e2 : c.name with
      | none => decide
      | some l =>
        dsimp only
        rw [List.length_cons, List.length_map, hn c (List.mem_of_getElem? e) l e2]
        decide
/-- a list that is no name is written: the aircraft stay -/
theorem CraftAt.out {H : Hp} {p hl g : Addr} {c : Ql35.Craft} {out : List Int} {o' : HO} (x : CraftAt A H p hl c) (hg : H g = some (.lst (out.map V.int))) (hd : ∀ x ∈ out.head?, x < 32) (hn : NameOk c) (n1 : p ≠ g) (n2 : hl ≠ g) : CraftAt A (upd H g o') p hl c := by
  obtain ⟨dx, nm, pl, ph, he, ho, a, b1, b2, b3, b4, b5⟩ := x
  have ins : ∀ {e C d : Addr} {fs : List (Str × V)}, H e = some (.ins C d fs) → upd H g o' e = some (.ins C d fs) := fun {e C d fs} h => by
    rw [upd_ne (ne_of h hg (by intro z; cases z))]
    exact h
  have hV : ∀ {v : V} {odd : Bool} {h : Option Ql35.Half}, HalfV A H v odd h → HalfV A (upd H g o') v odd h := fun {v odd h} k => by
    cases h with
    | none => exact k
    | some h =>
      obtain ⟨e, r, d, k⟩ := k
      exact ⟨e, r, d, ins k⟩
  refine ⟨dx, nm, pl, ph, he, ho, by rw [upd_ne n1]; exact a, ?_, ?_, by rw [upd_ne n2]; exact b3, hV b4, hV b5⟩
  · cases e : c.name with
    | none => rw [e] at b1; exact b1
    | some l =>
      rw [e] at b1
      obtain ⟨f, r, k, h8⟩ := b1
      refine ⟨f, r, ?_, h8⟩
      rw [upd_ne (ne_of k hg ?_)]
      · exact k
      · intro z
        injection z with z
        match l, h8 with
        | y :: l', _ =>
          cases out with
          | nil => cases z
          | cons w out' =>
            unfold bts at z
            rw [List.map_cons, List.map_cons] at z
            injection z with z1 z2
            injection z1 with z1
            have := hn _ e y (List.mem_cons_self ..)
            have h2 := hd w rfl
            omega
  · cases e : c.place with
    | none => rw [e] at b2; exact b2
    | some q =>
      obtain ⟨u, la, lo⟩ := q
      rw [e] at b2
      obtain ⟨f, r, ⟨d, k⟩, y⟩ := b2
      exact ⟨f, r, ⟨d, ins k⟩, y⟩
theorem Rc.out {H : Hp} {r kl g : Addr} {s : Ql35.St} {zs : Known} {out : List Int} {o' : HO} (x : Rc A H r s kl zs) (hg : H g = some (.lst (out.map V.int))) (hd : ∀ x ∈ out.head?, x < 32) (hn : NamesOk s) (no : g ∉ own r kl zs) : Rc A (upd H g o') r s kl zs := by
  have nr : r ≠ g := fun e => no (e ▸ List.mem_cons_self ..)
  have nk : kl ≠ g := fun e => no (by rw [← e]; unfold own; simp)
  obtain ⟨dx, ob⟩ := x.ob
  refine ⟨⟨dx, by rw [upd_ne nr]; exact ob⟩, by rw [upd_ne nk]; exact x.kn, fun z hz => ?_, x.st, x.n1, x.n2, x.nk, x.le⟩
  exact (x.cr z hz).out hg hd (hn _ (by rw [← x.st]; exact List.mem_map_of_mem hz)) (fun e => no (e ▸ own_fst hz)) (fun e => no (e ▸ own_hl hz))
def sp_answers (K : PySem.W.Frag) : Sp := fun vs H Q _ => ∃ (a : Addr) (ns : List Int), vs = [.ref a] ∧ Only H ∧ SqL K H a (ns.map V.int) ∧ ns.length ≤ 30000 ∧ (∀ x ∈ ns, 0 ≤ x ∧ x ≤ 4294967295) ∧ PyQl35.answers_asked ns = true ∧ ∀ v H', AnsIs (PyQl35.answers ns) v H' → Q v H'
/-- between two calls -/
structure Loop (A : Ad) (H : Hp) (ns : List Int) (r g : Addr) (H2 : Hp) (pre rest : List Int) (cs : List (List (List Int))) (s : Ql35.St) (kl : Addr) (zs : Known) (out : List Int) : Prop where
  cut : ns = pre ++ rest
  tk : Toks rest cs
  may : ∀ c ∈ cs, Ql35Neutral.may c = true
  sm : Same H H2
  rc : Rc A H2 r s kl zs
  gd : Good s
  ow : ∀ b ∈ own r kl zs, H b = none
  gv : H2 g = some (.lst (out.map V.int))
  go : g ∉ own r kl zs
  gn : H g = none
  ln : out.length + 11 * cs.length ≤ 6600
  hd : ∀ x ∈ out.head?, x < 32
  nm : NamesOk s
  an : out ++ PyFlat.told (PyFlat.played Ql35Neutral.step s cs) = PyQl35.answers ns
theorem ok_answers (T : Txt K mg A) : FnOk P w K mg base CX0 13 A.f_answers A.d_answers ["calls"] (sp_answers K) := by
  refine T.fn_answers.ok sc_answers (fun vs H Q E h => ?_) (fun cdv A' outer s H vs Q E hr h => ?_)
  · obtain ⟨a, ns, rfl, _⟩ := h
    rfl
  · obtain ⟨a, ns, rfl, hO, hS, hl, hin, hask, q⟩ := h
    have nd := sc_answers.nd
    obtain ⟨cs0, T0, hcs, hmay, hans⟩ := asked_toks hask
    refine ⟨_, (pss_cons (ps_set (i := 1) nd rfl (Or.inl rfl) (pe_make0 T.mk_Receiver (ok_Receiver___init__ T) (hr.mono (by decide)) rfl T.mg_Receiver (b_Receiver___init__ T) .nil pass0))
      (pss_cons (ps_set (i := 2) nd rfl (Or.inl rfl) (pe_lst pa_nil))
      (pss_cons (ps_set (i := 3) nd rfl (Or.inl rfl) pe_int)
      (pss_cons (ps_while PassesOwn.never (pt_cmpR op_lt (pv 3) (pe_callB call_len_seq (by rfl) T.nb_len bt_len (pa_cons (pv 0) pa_nil)) (nomark _)) (pss_cons (ps_set (i := 4) nd rfl (Or.inl rfl) (pe_call (ok_size_of_call T) (hr.mono (by decide)) rfl T.mg_size_of_call T.fn_size_of_call.kp (b_size_of_call T) .nil pass0 (pa_cons (pv 0) (pa_cons (pv 3) pa_nil))))
      (pss_cons (ps_set (i := 5) nd rfl (Or.inl rfl) (pe_call (ok_answer_of T) (hr.mono (by decide)) rfl T.mg_answer_of T.fn_answer_of.kp (b_answer_of T) .nil pass0 (pa_cons (pv 1) (pa_cons (pe_slice sl_list (pv 0) (po_some (pv 3)) (po_some (pe_op op_add (pv 3) (pv 4)))) pa_nil))))
      (pss_cons (ps_expr (pe_bm PySem.F.plainAttrs_list PySem.F.slot_list_append PySem.F.type_list_append mt_append (pv 2) (pa_cons (pe_callB call_len_seq (by rfl) T.nb_len bt_len (pa_cons (pv 5) pa_nil)) pa_nil)))
      (pss_cons (ps_expr (pe_bm PySem.F.plainAttrs_list PySem.F.slot_list_extend PySem.F.type_list_extend mt_extend (pv 2) (pa_cons (pv 5) pa_nil)))
      (pss_one (ps_aug (i := 3) nd rfl (Or.inl rfl) (pv 4) ip_add)))))))
      (pss_one (ps_ret (pv 2))))))), ?_⟩
    refine seqI (fun σ' H1 => ∃ r kl, σ' = [some (.ref a), some (.ref r), none, none, none, none] ∧ Same H H1 ∧ Rc A H1 r Ql35.empty kl [] ∧ H r = none ∧ H kl = none) ?_ ?_
    · intro U hU
      simp only [rdA, rdB, Nat.reduceAdd, Nat.reduceSub, Nat.reduceLT, List.replicate]
      intro r dx hr' hd ne
      refine ⟨r, dx, rfl, upd_same, fun kl H' hk fr rc => ⟨rfl, hU _ _ ⟨r, kl, rfl, fun b o e => fr b o ?_ (ne_of_none e hr'), rc, hr', ?_⟩⟩⟩
      · rw [upd_ne (ne_of_none e hr'), upd_ne (ne_of_none e hd)]
        exact e
      · have n1 : kl ≠ r := by
          rintro rfl
          rw [upd_same] at hk
          cases hk
        rw [upd_ne n1] at hk
        have n2 : kl ≠ dx := by
          rintro rfl
          rw [upd_same] at hk
          cases hk
        rw [upd_ne n2] at hk
        exact hk
    rintro _ H1 ⟨r, kl, rfl, s1, rc, hr0, hk0⟩
    refine seqI (fun σ' H2 => ∃ g, σ' = [some (.ref a), some (.ref r), some (.ref g), none, none, none] ∧ Loop A H ns r g H2 [] ns cs0 Ql35.empty kl [] []) ?_ ?_
    · intro U hU
      simp only [rdA, rdB, Nat.reduceAdd, Nat.reduceSub, Nat.reduceLT, List.replicate, tLst]
      refine ⟨by decide, fun g hg => hU _ _ ⟨g, rfl, rfl, T0, hmay, s1.trans (Same.new hg), rc.same (Same.new hg), good_empty, fun b hb => ?_, upd_same, fun m => rc.all m hg, s1.free hg, ?_, fun x hx => by simp at hx, names_empty, ?_⟩⟩
      · simp only [own, List.map_nil, List.append_nil, List.mem_cons, List.not_mem_nil, or_false] at hb
        rcases hb with e | e <;> rw [e] <;> assumption
      · show 0 + 11 * cs0.length ≤ 6600
        omega
      · rw [List.nil_append, hans]
        rfl
    rintro _ H2 ⟨g, rfl, L0⟩
    refine seqI (fun σ' H3 => σ' = [some (.ref a), some (.ref r), some (.ref g), some (.int 0), none, none] ∧ H2 = H3) ?_ ?_
    · intro U hU
      simp only [rdA, rdB, Nat.reduceAdd, Nat.reduceSub, Nat.reduceLT, List.replicate]
      exact hU _ _ ⟨rfl, rfl⟩
    rintro _ _ ⟨rfl, rfl⟩
    refine seqI (fun σ' H3 => ∃ v3 v4 v5, σ' = [some (.ref a), some (.ref r), some (.ref g), v3, v4, v5] ∧ H3 g = some (.lst ((PyQl35.answers ns).map V.int))) ?_ ?_
    · intro U hU
      refine while_by (fun σ H3 => ∃ pre rest cs s kl zs out v4 v5, σ = [some (.ref a), some (.ref r), some (.ref g), some (.int (pre.length : Nat)), v4, v5] ∧ Loop A H ns r g H3 pre rest cs s kl zs out)
        (fun σ _ => match σ with | _ :: _ :: _ :: some (.int k) :: _ => ns.length - k.toNat | _ => 0) ⟨[], ns, cs0, Ql35.empty, kl, [], [], none, none, rfl, L0⟩ ?_ ?_
      · rintro σ H3 ⟨pre, rest, cs, s, kl, zs, out, v4, v5, rfl, L⟩
        simp only [rdA, rdB, Nat.reduceAdd, Nat.reduceSub, Nat.reduceLT, List.replicate]
        have hS3 := L.sm.seq hS
        refine ⟨_, .inl hS3, ?_⟩
        rw [List.length_map]
        cases cs with
        | nil =>
          have e := toks_nil L.tk
          have hc := L.cut
          rw [e, List.append_nil] at hc
          rw [if_neg (by rw [hc]; simp)]
          have an := L.an
          have e2 : PyFlat.told (PyFlat.played Ql35Neutral.step s []) = [] := rfl
          rw [e2, List.append_nil] at an
          exact hU _ _ ⟨_, _, _, rfl, by rw [← an]; exact L.gv⟩
        | cons c cs =>
          obtain ⟨r', er, tk', fc⟩ := toks_cons L.tk
          have hpos := flat_pos fc
          have hlen : ns.length = pre.length + ((flat c).length + r'.length) := by
            rw [L.cut, er, List.length_append, List.length_append]
          rw [if_pos (decide_eq_true (by omega))]
          have hS4 : SqL K H3 a ((pre ++ (flat c ++ r')).map V.int) := by
            rw [← er, ← L.cut]
            exact hS3
          refine ⟨a, pre, r', c, rfl, hS4, fc, ?_⟩
          simp only [rdA, rdB, Nat.reduceAdd, Nat.reduceSub, Nat.reduceLT, List.replicate, tSl, tPart, rSlL]
          refine ⟨_, hS4, fun p hp => ?_⟩
          rw [List.map_append, List.map_append]
          have cm := cutMid (pre.map V.int) ((flat c).map V.int) (r'.map V.int)
          rw [List.length_map, List.length_map] at cm
          rw [cm]
          have mc := L.may c (List.mem_cons_self ..)
          have sp : Same H3 (upd H3 p (.lst ((flat c).map V.int))) := Same.new hp
          refine ⟨r, kl, p, s, zs, c, rfl, L.rc.same sp, L.gd, fc, mc, upd_same, fun l kl' zs' H4 rc4 st4 hne hl => ?_⟩
          have st : Stp H3 H4 r kl kl' zs zs' := (Stp.same sp).trans st4
          have gv4 : H4 g = some (.lst (out.map V.int)) := st.fr _ _ L.gv (.inr L.go)
          have gl : g ≠ l := hne g (by rw [sp _ _ L.gv]; simp) L.go
          simp only [rdA, rdB, Nat.reduceAdd, Nat.reduceSub, Nat.reduceLT, List.replicate, tBM, rAppend, rExtend]
          have hln := L.ln
          rw [List.length_cons] at hln
          have hsl := step_len (s := s) fc mc L.rc.names
          have h66 : 6600 < sizeLine := by decide
          have ngo : g ∉ own r kl' zs' := fun m => by
            rcases st.ow g m with z | z
            · exact L.go z
            · rw [L.gv] at z; cases z
          have gs := good_step fc mc L.gd
          have nms := names_step fc mc L.nm
          have an := L.an
          have e2 : PyFlat.told (PyFlat.played Ql35Neutral.step s (c :: cs)) = (((Ql35Neutral.step s c).2.length : Int) :: (Ql35Neutral.step s c).2) ++ PyFlat.told (PyFlat.played Ql35Neutral.step (Ql35Neutral.step s c).1 cs) := told_cons _ _
          rw [e2, ← List.append_assoc] at an
          generalize (Ql35Neutral.step s c).2 = ans at hl hsl an
          generalize (Ql35Neutral.step s c).1 = s' at rc4 gs nms an
          refine ⟨.inl ⟨rfl, _, SqL.of gv4⟩, _, .inl (SqL.of hl), _, gv4, by rw [List.length_map]; omega, .inl ⟨rfl, _, SqL.of upd_same⟩, _, upd_same, _, (by rw [upd_ne gl.symm]; exact hl), ?_, ⟨pre ++ flat c, by rw [List.length_append]; omega, r', cs, s', kl', zs', out ++ ((ans.length : Int) :: ans), ?_⟩, by omega⟩
          · rw [List.length_append, List.length_map, List.length_map, List.length_singleton]
            omega
          · rw [upd_upd]
            refine ⟨by rw [L.cut, er, List.append_assoc], tk', fun c' h => L.may c' (List.mem_cons_of_mem _ h), fun b o e => ?_, rc4.out gv4 L.hd nms ngo, gs, fun b hb => ?_, ?_, ngo, L.gn, ?_, ?_, nms, an⟩
            · rw [upd_ne (ne_of_none e L.gn)]
              exact st.fr b o (L.sm b o e) (.inr fun m => by
                have z := L.ow b m
                rw [e] at z
                cases z)
            · rcases st.ow b hb with z | z
              · exact L.ow b z
              · exact L.sm.free z
            · rw [upd_same, List.length_map, List.map_append, List.map_cons, List.append_assoc]
              rfl
            · rw [List.length_append, List.length_cons]
              omega
            · cases out with
              | nil =>
                intro x hx
                have e : (ans.length : Int) = x := Option.some.inj hx
                omega
              | cons y out' => exact L.hd
      · intro σ H Q Q' hQ h
        simp only [rdA, rdB, Nat.reduceAdd, Nat.reduceSub, Nat.reduceLT, List.replicate] at h ⊢
        obtain ⟨v, h1, v1, h2, p, h3, x, h4, i, h5, h6⟩ := h
        exact ⟨v, h1, v1, h2, p, h3, x, h4, i, h5, hQ _ _ h6⟩
    · rintro _ H3 ⟨v3, v4, v5, rfl, hg3⟩
      simp only [rdA, rdB, Nat.reduceAdd, Nat.reduceSub, Nat.reduceLT, List.replicate]
      exact q _ _ ⟨g, rfl, hg3⟩
end
end Ph

namespace Ph
open PySem L2
/-! ### what the top has written -/
theorem int_mk {K : PySem.W.Frag} {h : Heap} {mg : Str → Option Value} (X : K.In h) (G : h.Ns mainGlobals mg) {x : Str} {i : Int} {t : Tok} (e : PySem.W.nsIn K mainGlobals x = some (some (.int i t))) : ∃ t, mg x = some (.int i t) := ⟨t, PySem.W.mg_of X G e⟩
theorem tup_mk {K : PySem.W.Frag} {h : Heap} {mg : Str → Option Value} (X : K.In h) (G : h.Ns mainGlobals mg) {x : Str} {ns : List Int} {a : Addr} {od : Option Addr} {its : Array Value} {n : Nat} {sl : Array (Option Value)}
    (e : PySem.W.nsIn K mainGlobals x = some (some (.ref a))) (l : K.lookup a = some ⟨.type "tuple", od, .seq its n, sl⟩) (v : its.size ≤ sizeLine ∧ Vals (ns.map V.int) its.toList) : ∃ a, mg x = some (.ref a) ∧ TupK K a ns :=
  ⟨a, PySem.W.mg_of X G e, _, its, n, l, rfl, rfl, v.1, v.2⟩
theorem dct_mk {K : PySem.W.Frag} {h : Heap} {mg : Str → Option Value} (X : K.In h) (G : h.Ns mainGlobals mg) {x : Str} {kvs : List (Int × Int)} {a : Addr} {es : Array DictEntry} {n : Nat}
    (e : PySem.W.nsIn K mainGlobals x = some (some (.ref a))) (l : K.lookup a = some ⟨.type "dict", none, .dict es n, #[]⟩)
    (v : (a == sysModules) = false ∧ Paired (fun (p : Int × Int) (e : DictEntry) => e.hash = hashInt p.1 ∧ (∃ t, e.key = .int p.1 t) ∧ ∃ t, e.val = .int p.2 t) kvs es.toList ∧ (kvs.map (·.1)).Nodup) : ∃ a, mg x = some (.ref a) ∧ DctK K a kvs :=
  ⟨a, PySem.W.mg_of X G e, _, es, n, l, ⟨rfl, rfl, rfl⟩, rfl, v.1, v.2.1, v.2.2⟩
theorem def_mk {K : PySem.W.Frag} {h : Heap} {mg : Str → Option Value} (X : K.In h) (G : h.Ns mainGlobals mg) {x : Str} {st : Stmt} {f : Addr} {od an : Option Addr} {sl : Array (Option Value)} {oc kV dc pm cd ct : Value} (a : PySem.W.nsIn K mainGlobals x = some (some (.ref f))) (l : K.lookup f = some ⟨oc, od, .func (PySem.W.fnOf x x (defArgs st) (defBody st) (defScope st) .none kV dc pm an cd ct), sl⟩) (c : PySem.W.codeIn K cd x = true) (k : PySem.W.keepIn K (.ref f) = true) : ∃ (f : Addr) (fd : FuncData), Fun K x x st f fd ∧ mg x = some (.ref f) := ⟨f, _, fun_mk l c k, PySem.W.mg_of X G a⟩
def Cl_Angle (K : PySem.W.Frag) (mg : Str → Option Value) : Prop := ∃ (C f0 f1 f2 f3 f4 : Addr) (d0 d1 d2 d3 d4 : FuncData), Cls K C ∧ Mk K C f0 ∧ mg "Angle" = some (.ref C) ∧ NoAttr K C "parts" ∧ NoAttr K C "zones" ∧ Fun K "__init__" "Angle.__init__" s_Angle___init__ f0 d0 ∧ Fun K "circle" "Angle.circle" s_Angle_circle f1 d1 ∧ Fun K "told" "Angle.told" s_Angle_told f2 d2 ∧ Fun K "reaches" "Angle.reaches" s_Angle_reaches f3 d3 ∧ Fun K "moved" "Angle.moved" s_Angle_moved f4 d4 ∧ Meth K C "circle" f1 ∧ Meth K C "told" f2 ∧ Meth K C "reaches" f3 ∧ Meth K C "moved" f4
theorem cls_Angle {K : PySem.W.Frag} {h : Heap} {mg : Str → Option Value} (X : K.In h) (G : h.Ns mainGlobals mg) {C f0 f1 f2 f3 f4 : Addr} {od0 an0 : Option Addr} {sl0 : Array (Option Value)} {oc0 kV0 dc0 pm0 cd0 ct0 : Value} {od1 an1 : Option Addr} {sl1 : Array (Option Value)} {oc1 kV1 dc1 pm1 cd1 ct1 : Value} {od2 an2 : Option Addr} {sl2 : Array (Option Value)} {oc2 kV2 dc2 pm2 cd2 ct2 : Value} {od3 an3 : Option Addr} {sl3 : Array (Option Value)} {oc3 kV3 dc3 pm3 cd3 ct3 : Value} {od4 an4 : Option Addr} {sl4 : Array (Option Value)} {oc4 kV4 dc4 pm4 cd4 ct4 : Value}
    (aC : PySem.W.nsIn K mainGlobals "Angle" = some (some (.ref C)))
    (pg : PySem.W.plainGet K C Str.empty = true) (hd : PySem.W.hasDictIn K C = true) (po : PySem.W.plainOver K C = true) (sa : PySem.W.findIn K (.ref C) "__setattr__" = some (some (.builtin "object.__setattr__"))) (mk : PySem.W.makesIn K C = true) (kc : PySem.W.keepIn K (.ref C) = true)
    (n_parts : PySem.W.findIn K (.ref C) "parts" = some none)
    (n_zones : PySem.W.findIn K (.ref C) "zones" = some none)
    (a0 : PySem.W.findIn K (.ref C) "__init__" = some (some (.ref f0))) (i0 : PySem.W.isFn K (.ref f0) = true) (l0 : K.lookup f0 = some ⟨oc0, od0, .func (PySem.W.fnOf "__init__" "Angle.__init__" (defArgs s_Angle___init__) (defBody s_Angle___init__) (defScope s_Angle___init__) .none kV0 dc0 pm0 an0 cd0 ct0), sl0⟩) (c0 : PySem.W.codeIn K cd0 "Angle.__init__" = true) (k0 : PySem.W.keepIn K (.ref f0) = true)
    (a1 : PySem.W.findIn K (.ref C) "circle" = some (some (.ref f1))) (i1 : PySem.W.isFn K (.ref f1) = true) (l1 : K.lookup f1 = some ⟨oc1, od1, .func (PySem.W.fnOf "circle" "Angle.circle" (defArgs s_Angle_circle) (defBody s_Angle_circle) (defScope s_Angle_circle) .none kV1 dc1 pm1 an1 cd1 ct1), sl1⟩) (c1 : PySem.W.codeIn K cd1 "Angle.circle" = true) (k1 : PySem.W.keepIn K (.ref f1) = true)
    (a2 : PySem.W.findIn K (.ref C) "told" = some (some (.ref f2))) (i2 : PySem.W.isFn K (.ref f2) = true) (l2 : K.lookup f2 = some ⟨oc2, od2, .func (PySem.W.fnOf "told" "Angle.told" (defArgs s_Angle_told) (defBody s_Angle_told) (defScope s_Angle_told) .none kV2 dc2 pm2 an2 cd2 ct2), sl2⟩) (c2 : PySem.W.codeIn K cd2 "Angle.told" = true) (k2 : PySem.W.keepIn K (.ref f2) = true)
    (a3 : PySem.W.findIn K (.ref C) "reaches" = some (some (.ref f3))) (i3 : PySem.W.isFn K (.ref f3) = true) (l3 : K.lookup f3 = some ⟨oc3, od3, .func (PySem.W.fnOf "reaches" "Angle.reaches" (defArgs s_Angle_reaches) (defBody s_Angle_reaches) (defScope s_Angle_reaches) .none kV3 dc3 pm3 an3 cd3 ct3), sl3⟩) (c3 : PySem.W.codeIn K cd3 "Angle.reaches" = true) (k3 : PySem.W.keepIn K (.ref f3) = true)
    (a4 : PySem.W.findIn K (.ref C) "moved" = some (some (.ref f4))) (i4 : PySem.W.isFn K (.ref f4) = true) (l4 : K.lookup f4 = some ⟨oc4, od4, .func (PySem.W.fnOf "moved" "Angle.moved" (defArgs s_Angle_moved) (defBody s_Angle_moved) (defScope s_Angle_moved) .none kV4 dc4 pm4 an4 cd4 ct4), sl4⟩) (c4 : PySem.W.codeIn K cd4 "Angle.moved" = true) (k4 : PySem.W.keepIn K (.ref f4) = true) : Cl_Angle K mg :=
  ⟨C, f0, f1, f2, f3, f4, _, _, _, _, _, ⟨pg, hd, po, sa⟩, ⟨mk, a0, i0, kc⟩, PySem.W.mg_of X G aC, n_parts, n_zones, fun_mk l0 c0 k0, fun_mk l1 c1 k1, fun_mk l2 c2 k2, fun_mk l3 c3 k3, fun_mk l4 c4 k4, ⟨a1, i1, k1⟩, ⟨a2, i2, k2⟩, ⟨a3, i3, k3⟩, ⟨a4, i4, k4⟩⟩
def Cl_Half (K : PySem.W.Frag) (mg : Str → Option Value) : Prop := ∃ (C f0 : Addr) (d0 : FuncData), Cls K C ∧ Mk K C f0 ∧ mg "Half" = some (.ref C) ∧ NoAttr K C "odd" ∧ NoAttr K C "y" ∧ NoAttr K C "x" ∧ NoAttr K C "heard" ∧ Fun K "__init__" "Half.__init__" s_Half___init__ f0 d0
theorem cls_Half {K : PySem.W.Frag} {h : Heap} {mg : Str → Option Value} (X : K.In h) (G : h.Ns mainGlobals mg) {C f0 : Addr} {od0 an0 : Option Addr} {sl0 : Array (Option Value)} {oc0 kV0 dc0 pm0 cd0 ct0 : Value}
    (aC : PySem.W.nsIn K mainGlobals "Half" = some (some (.ref C)))
    (pg : PySem.W.plainGet K C Str.empty = true) (hd : PySem.W.hasDictIn K C = true) (po : PySem.W.plainOver K C = true) (sa : PySem.W.findIn K (.ref C) "__setattr__" = some (some (.builtin "object.__setattr__"))) (mk : PySem.W.makesIn K C = true) (kc : PySem.W.keepIn K (.ref C) = true)
    (n_odd : PySem.W.findIn K (.ref C) "odd" = some none)
    (n_y : PySem.W.findIn K (.ref C) "y" = some none)
    (n_x : PySem.W.findIn K (.ref C) "x" = some none)
    (n_heard : PySem.W.findIn K (.ref C) "heard" = some none)
    (a0 : PySem.W.findIn K (.ref C) "__init__" = some (some (.ref f0))) (i0 : PySem.W.isFn K (.ref f0) = true) (l0 : K.lookup f0 = some ⟨oc0, od0, .func (PySem.W.fnOf "__init__" "Half.__init__" (defArgs s_Half___init__) (defBody s_Half___init__) (defScope s_Half___init__) .none kV0 dc0 pm0 an0 cd0 ct0), sl0⟩) (c0 : PySem.W.codeIn K cd0 "Half.__init__" = true) (k0 : PySem.W.keepIn K (.ref f0) = true) : Cl_Half K mg :=
  ⟨C, f0, _, ⟨pg, hd, po, sa⟩, ⟨mk, a0, i0, kc⟩, PySem.W.mg_of X G aC, n_odd, n_y, n_x, n_heard, fun_mk l0 c0 k0⟩
def Cl_Place (K : PySem.W.Frag) (mg : Str → Option Value) : Prop := ∃ (C f0 : Addr) (d0 : FuncData), Cls K C ∧ Mk K C f0 ∧ mg "Place" = some (.ref C) ∧ NoAttr K C "latitude" ∧ NoAttr K C "longitude" ∧ Fun K "__init__" "Place.__init__" s_Place___init__ f0 d0
theorem cls_Place {K : PySem.W.Frag} {h : Heap} {mg : Str → Option Value} (X : K.In h) (G : h.Ns mainGlobals mg) {C f0 : Addr} {od0 an0 : Option Addr} {sl0 : Array (Option Value)} {oc0 kV0 dc0 pm0 cd0 ct0 : Value}
    (aC : PySem.W.nsIn K mainGlobals "Place" = some (some (.ref C)))
    (pg : PySem.W.plainGet K C Str.empty = true) (hd : PySem.W.hasDictIn K C = true) (po : PySem.W.plainOver K C = true) (sa : PySem.W.findIn K (.ref C) "__setattr__" = some (some (.builtin "object.__setattr__"))) (mk : PySem.W.makesIn K C = true) (kc : PySem.W.keepIn K (.ref C) = true)
    (n_latitude : PySem.W.findIn K (.ref C) "latitude" = some none)
    (n_longitude : PySem.W.findIn K (.ref C) "longitude" = some none)
    (a0 : PySem.W.findIn K (.ref C) "__init__" = some (some (.ref f0))) (i0 : PySem.W.isFn K (.ref f0) = true) (l0 : K.lookup f0 = some ⟨oc0, od0, .func (PySem.W.fnOf "__init__" "Place.__init__" (defArgs s_Place___init__) (defBody s_Place___init__) (defScope s_Place___init__) .none kV0 dc0 pm0 an0 cd0 ct0), sl0⟩) (c0 : PySem.W.codeIn K cd0 "Place.__init__" = true) (k0 : PySem.W.keepIn K (.ref f0) = true) : Cl_Place K mg :=
  ⟨C, f0, _, ⟨pg, hd, po, sa⟩, ⟨mk, a0, i0, kc⟩, PySem.W.mg_of X G aC, n_latitude, n_longitude, fun_mk l0 c0 k0⟩
def Cl_Aircraft (K : PySem.W.Frag) (mg : Str → Option Value) : Prop := ∃ (C f0 f1 f2 f3 f4 f5 f6 : Addr) (d0 d1 d2 d3 d4 d5 d6 : FuncData), Cls K C ∧ Mk K C f0 ∧ mg "Aircraft" = some (.ref C) ∧ NoAttr K C "address" ∧ NoAttr K C "heard" ∧ NoAttr K C "name" ∧ NoAttr K C "height" ∧ NoAttr K C "identity" ∧ NoAttr K C "east" ∧ NoAttr K C "north" ∧ NoAttr K C "climb" ∧ NoAttr K C "place" ∧ NoAttr K C "place_heard" ∧ NoAttr K C "halves" ∧ Fun K "__init__" "Aircraft.__init__" s_Aircraft___init__ f0 d0 ∧ Fun K "numbers_at" "Aircraft.numbers_at" s_Aircraft_numbers_at f1 d1 ∧ Fun K "take_height" "Aircraft.take_height" s_Aircraft_take_height f2 d2 ∧ Fun K "take_extended" "Aircraft.take_extended" s_Aircraft_take_extended f3 d3 ∧ Fun K "take_half" "Aircraft.take_half" s_Aircraft_take_half f4 d4 ∧ Fun K "place_by_both" "Aircraft.place_by_both" s_Aircraft_place_by_both f5 d5 ∧ Fun K "place_by_known" "Aircraft.place_by_known" s_Aircraft_place_by_known f6 d6 ∧ Meth K C "numbers_at" f1 ∧ Meth K C "take_height" f2 ∧ Meth K C "take_extended" f3 ∧ Meth K C "take_half" f4 ∧ Meth K C "place_by_both" f5 ∧ Meth K C "place_by_known" f6
theorem cls_Aircraft {K : PySem.W.Frag} {h : Heap} {mg : Str → Option Value} (X : K.In h) (G : h.Ns mainGlobals mg) {C f0 f1 f2 f3 f4 f5 f6 : Addr} {od0 an0 : Option Addr} {sl0 : Array (Option Value)} {oc0 kV0 dc0 pm0 cd0 ct0 : Value} {od1 an1 : Option Addr} {sl1 : Array (Option Value)} {oc1 kV1 dc1 pm1 cd1 ct1 : Value} {od2 an2 : Option Addr} {sl2 : Array (Option Value)} {oc2 kV2 dc2 pm2 cd2 ct2 : Value} {od3 an3 : Option Addr} {sl3 : Array (Option Value)} {oc3 kV3 dc3 pm3 cd3 ct3 : Value} {od4 an4 : Option Addr} {sl4 : Array (Option Value)} {oc4 kV4 dc4 pm4 cd4 ct4 : Value} {od5 an5 : Option Addr} {sl5 : Array (Option Value)} {oc5 kV5 dc5 pm5 cd5 ct5 : Value} {od6 an6 : Option Addr} {sl6 : Array (Option Value)} {oc6 kV6 dc6 pm6 cd6 ct6 : Value}
    (aC : PySem.W.nsIn K mainGlobals "Aircraft" = some (some (.ref C)))
    (pg : PySem.W.plainGet K C Str.empty = true) (hd : PySem.W.hasDictIn K C = true) (po : PySem.W.plainOver K C = true) (sa : PySem.W.findIn K (.ref C) "__setattr__" = some (some (.builtin "object.__setattr__"))) (mk : PySem.W.makesIn K C = true) (kc : PySem.W.keepIn K (.ref C) = true)
    (n_address : PySem.W.findIn K (.ref C) "address" = some none)
    (n_heard : PySem.W.findIn K (.ref C) "heard" = some none)
    (n_name : PySem.W.findIn K (.ref C) "name" = some none)
    (n_height : PySem.W.findIn K (.ref C) "height" = some none)
    (n_identity : PySem.W.findIn K (.ref C) "identity" = some none)
    (n_east : PySem.W.findIn K (.ref C) "east" = some none)
    (n_north : PySem.W.findIn K (.ref C) "north" = some none)
    (n_climb : PySem.W.findIn K (.ref C) "climb" = some none)
    (n_place : PySem.W.findIn K (.ref C) "place" = some none)
    (n_place_heard : PySem.W.findIn K (.ref C) "place_heard" = some none)
    (n_halves : PySem.W.findIn K (.ref C) "halves" = some none)
    (a0 : PySem.W.findIn K (.ref C) "__init__" = some (some (.ref f0))) (i0 : PySem.W.isFn K (.ref f0) = true) (l0 : K.lookup f0 = some ⟨oc0, od0, .func (PySem.W.fnOf "__init__" "Aircraft.__init__" (defArgs s_Aircraft___init__) (defBody s_Aircraft___init__) (defScope s_Aircraft___init__) .none kV0 dc0 pm0 an0 cd0 ct0), sl0⟩) (c0 : PySem.W.codeIn K cd0 "Aircraft.__init__" = true) (k0 : PySem.W.keepIn K (.ref f0) = true)
    (a1 : PySem.W.findIn K (.ref C) "numbers_at" = some (some (.ref f1))) (i1 : PySem.W.isFn K (.ref f1) = true) (l1 : K.lookup f1 = some ⟨oc1, od1, .func (PySem.W.fnOf "numbers_at" "Aircraft.numbers_at" (defArgs s_Aircraft_numbers_at) (defBody s_Aircraft_numbers_at) (defScope s_Aircraft_numbers_at) .none kV1 dc1 pm1 an1 cd1 ct1), sl1⟩) (c1 : PySem.W.codeIn K cd1 "Aircraft.numbers_at" = true) (k1 : PySem.W.keepIn K (.ref f1) = true)
    (a2 : PySem.W.findIn K (.ref C) "take_height" = some (some (.ref f2))) (i2 : PySem.W.isFn K (.ref f2) = true) (l2 : K.lookup f2 = some ⟨oc2, od2, .func (PySem.W.fnOf "take_height" "Aircraft.take_height" (defArgs s_Aircraft_take_height) (defBody s_Aircraft_take_height) (defScope s_Aircraft_take_height) .none kV2 dc2 pm2 an2 cd2 ct2), sl2⟩) (c2 : PySem.W.codeIn K cd2 "Aircraft.take_height" = true) (k2 : PySem.W.keepIn K (.ref f2) = true)
    (a3 : PySem.W.findIn K (.ref C) "take_extended" = some (some (.ref f3))) (i3 : PySem.W.isFn K (.ref f3) = true) (l3 : K.lookup f3 = some ⟨oc3, od3, .func (PySem.W.fnOf "take_extended" "Aircraft.take_extended" (defArgs s_Aircraft_take_extended) (defBody s_Aircraft_take_extended) (defScope s_Aircraft_take_extended) .none kV3 dc3 pm3 an3 cd3 ct3), sl3⟩) (c3 : PySem.W.codeIn K cd3 "Aircraft.take_extended" = true) (k3 : PySem.W.keepIn K (.ref f3) = true)
    (a4 : PySem.W.findIn K (.ref C) "take_half" = some (some (.ref f4))) (i4 : PySem.W.isFn K (.ref f4) = true) (l4 : K.lookup f4 = some ⟨oc4, od4, .func (PySem.W.fnOf "take_half" "Aircraft.take_half" (defArgs s_Aircraft_take_half) (defBody s_Aircraft_take_half) (defScope s_Aircraft_take_half) .none kV4 dc4 pm4 an4 cd4 ct4), sl4⟩) (c4 : PySem.W.codeIn K cd4 "Aircraft.take_half" = true) (k4 : PySem.W.keepIn K (.ref f4) = true)
    (a5 : PySem.W.findIn K (.ref C) "place_by_both" = some (some (.ref f5))) (i5 : PySem.W.isFn K (.ref f5) = true) (l5 : K.lookup f5 = some ⟨oc5, od5, .func (PySem.W.fnOf "place_by_both" "Aircraft.place_by_both" (defArgs s_Aircraft_place_by_both) (defBody s_Aircraft_place_by_both) (defScope s_Aircraft_place_by_both) .none kV5 dc5 pm5 an5 cd5 ct5), sl5⟩) (c5 : PySem.W.codeIn K cd5 "Aircraft.place_by_both" = true) (k5 : PySem.W.keepIn K (.ref f5) = true)
    (a6 : PySem.W.findIn K (.ref C) "place_by_known" = some (some (.ref f6))) (i6 : PySem.W.isFn K (.ref f6) = true) (l6 : K.lookup f6 = some ⟨oc6, od6, .func (PySem.W.fnOf "place_by_known" "Aircraft.place_by_known" (defArgs s_Aircraft_place_by_known) (defBody s_Aircraft_place_by_known) (defScope s_Aircraft_place_by_known) .none kV6 dc6 pm6 an6 cd6 ct6), sl6⟩) (c6 : PySem.W.codeIn K cd6 "Aircraft.place_by_known" = true) (k6 : PySem.W.keepIn K (.ref f6) = true) : Cl_Aircraft K mg :=
  ⟨C, f0, f1, f2, f3, f4, f5, f6, _, _, _, _, _, _, _, ⟨pg, hd, po, sa⟩, ⟨mk, a0, i0, kc⟩, PySem.W.mg_of X G aC, n_address, n_heard, n_name, n_height, n_identity, n_east, n_north, n_climb, n_place, n_place_heard, n_halves, fun_mk l0 c0 k0, fun_mk l1 c1 k1, fun_mk l2 c2 k2, fun_mk l3 c3 k3, fun_mk l4 c4 k4, fun_mk l5 c5 k5, fun_mk l6 c6 k6, ⟨a1, i1, k1⟩, ⟨a2, i2, k2⟩, ⟨a3, i3, k3⟩, ⟨a4, i4, k4⟩, ⟨a5, i5, k5⟩, ⟨a6, i6, k6⟩⟩
def Cl_Receiver (K : PySem.W.Frag) (mg : Str → Option Value) : Prop := ∃ (C f0 f1 f2 f3 f4 f5 f6 f7 f8 f9 f10 f11 : Addr) (d0 d1 d2 d3 d4 d5 d6 d7 d8 d9 d10 d11 : FuncData), Cls K C ∧ Mk K C f0 ∧ mg "Receiver" = some (.ref C) ∧ NoAttr K C "now" ∧ NoAttr K C "known" ∧ Fun K "__init__" "Receiver.__init__" s_Receiver___init__ f0 d0 ∧ Fun K "begin" "Receiver.begin" s_Receiver_begin f1 d1 ∧ Fun K "take_message" "Receiver.take_message" s_Receiver_take_message f2 d2 ∧ Fun K "set_time" "Receiver.set_time" s_Receiver_set_time f3 d3 ∧ Fun K "take_reply" "Receiver.take_reply" s_Receiver_take_reply f4 d4 ∧ Fun K "take_squitter" "Receiver.take_squitter" s_Receiver_take_squitter f5 d5 ∧ Fun K "spot_of" "Receiver.spot_of" s_Receiver_spot_of f6 d6 ∧ Fun K "known_or_new" "Receiver.known_or_new" s_Receiver_known_or_new f7 d7 ∧ Fun K "hear" "Receiver.hear" s_Receiver_hear f8 d8 ∧ Fun K "how_many" "Receiver.how_many" s_Receiver_how_many f9 d9 ∧ Fun K "tell_numbers" "Receiver.tell_numbers" s_Receiver_tell_numbers f10 d10 ∧ Fun K "tell_name" "Receiver.tell_name" s_Receiver_tell_name f11 d11 ∧ Meth K C "begin" f1 ∧ Meth K C "take_message" f2 ∧ Meth K C "set_time" f3 ∧ Meth K C "take_reply" f4 ∧ Meth K C "take_squitter" f5 ∧ Meth K C "spot_of" f6 ∧ Meth K C "known_or_new" f7 ∧ Meth K C "hear" f8 ∧ Meth K C "how_many" f9 ∧ Meth K C "tell_numbers" f10 ∧ Meth K C "tell_name" f11
theorem cls_Receiver {K : PySem.W.Frag} {h : Heap} {mg : Str → Option Value} (X : K.In h) (G : h.Ns mainGlobals mg) {C f0 f1 f2 f3 f4 f5 f6 f7 f8 f9 f10 f11 : Addr} {od0 an0 : Option Addr} {sl0 : Array (Option Value)} {oc0 kV0 dc0 pm0 cd0 ct0 : Value} {od1 an1 : Option Addr} {sl1 : Array (Option Value)} {oc1 kV1 dc1 pm1 cd1 ct1 : Value} {od2 an2 : Option Addr} {sl2 : Array (Option Value)} {oc2 kV2 dc2 pm2 cd2 ct2 : Value} {od3 an3 : Option Addr} {sl3 : Array (Option Value)} {oc3 kV3 dc3 pm3 cd3 ct3 : Value} {od4 an4 : Option Addr} {sl4 : Array (Option Value)} {oc4 kV4 dc4 pm4 cd4 ct4 : Value} {od5 an5 : Option Addr} {sl5 : Array (Option Value)} {oc5 kV5 dc5 pm5 cd5 ct5 : Value} {od6 an6 : Option Addr} {sl6 : Array (Option Value)} {oc6 kV6 dc6 pm6 cd6 ct6 : Value} {od7 an7 : Option Addr} {sl7 : Array (Option Value)} {oc7 kV7 dc7 pm7 cd7 ct7 : Value} {od8 an8 : Option Addr} {sl8 : Array (Option Value)} {oc8 kV8 dc8 pm8 cd8 ct8 : Value} {od9 an9 : Option Addr} {sl9 : Array (Option Value)} {oc9 kV9 dc9 pm9 cd9 ct9 : Value} {od10 an10 : Option Addr} {sl10 : Array (Option Value)} {oc10 kV10 dc10 pm10 cd10 ct10 : Value} {od11 an11 : Option Addr} {sl11 : Array (Option Value)} {oc11 kV11 dc11 pm11 cd11 ct11 : Value}
    (aC : PySem.W.nsIn K mainGlobals "Receiver" = some (some (.ref C)))
    (pg : PySem.W.plainGet K C Str.empty = true) (hd : PySem.W.hasDictIn K C = true) (po : PySem.W.plainOver K C = true) (sa : PySem.W.findIn K (.ref C) "__setattr__" = some (some (.builtin "object.__setattr__"))) (mk : PySem.W.makesIn K C = true) (kc : PySem.W.keepIn K (.ref C) = true)
    (n_now : PySem.W.findIn K (.ref C) "now" = some none)
    (n_known : PySem.W.findIn K (.ref C) "known" = some none)
    (a0 : PySem.W.findIn K (.ref C) "__init__" = some (some (.ref f0))) (i0 : PySem.W.isFn K (.ref f0) = true) (l0 : K.lookup f0 = some ⟨oc0, od0, .func (PySem.W.fnOf "__init__" "Receiver.__init__" (defArgs s_Receiver___init__) (defBody s_Receiver___init__) (defScope s_Receiver___init__) .none kV0 dc0 pm0 an0 cd0 ct0), sl0⟩) (c0 : PySem.W.codeIn K cd0 "Receiver.__init__" = true) (k0 : PySem.W.keepIn K (.ref f0) = true)
    (a1 : PySem.W.findIn K (.ref C) "begin" = some (some (.ref f1))) (i1 : PySem.W.isFn K (.ref f1) = true) (l1 : K.lookup f1 = some ⟨oc1, od1, .func (PySem.W.fnOf "begin" "Receiver.begin" (defArgs s_Receiver_begin) (defBody s_Receiver_begin) (defScope s_Receiver_begin) .none kV1 dc1 pm1 an1 cd1 ct1), sl1⟩) (c1 : PySem.W.codeIn K cd1 "Receiver.begin" = true) (k1 : PySem.W.keepIn K (.ref f1) = true)
    (a2 : PySem.W.findIn K (.ref C) "take_message" = some (some (.ref f2))) (i2 : PySem.W.isFn K (.ref f2) = true) (l2 : K.lookup f2 = some ⟨oc2, od2, .func (PySem.W.fnOf "take_message" "Receiver.take_message" (defArgs s_Receiver_take_message) (defBody s_Receiver_take_message) (defScope s_Receiver_take_message) .none kV2 dc2 pm2 an2 cd2 ct2), sl2⟩) (c2 : PySem.W.codeIn K cd2 "Receiver.take_message" = true) (k2 : PySem.W.keepIn K (.ref f2) = true)
    (a3 : PySem.W.findIn K (.ref C) "set_time" = some (some (.ref f3))) (i3 : PySem.W.isFn K (.ref f3) = true) (l3 : K.lookup f3 = some ⟨oc3, od3, .func (PySem.W.fnOf "set_time" "Receiver.set_time" (defArgs s_Receiver_set_time) (defBody s_Receiver_set_time) (defScope s_Receiver_set_time) .none kV3 dc3 pm3 an3 cd3 ct3), sl3⟩) (c3 : PySem.W.codeIn K cd3 "Receiver.set_time" = true) (k3 : PySem.W.keepIn K (.ref f3) = true)
    (a4 : PySem.W.findIn K (.ref C) "take_reply" = some (some (.ref f4))) (i4 : PySem.W.isFn K (.ref f4) = true) (l4 : K.lookup f4 = some ⟨oc4, od4, .func (PySem.W.fnOf "take_reply" "Receiver.take_reply" (defArgs s_Receiver_take_reply) (defBody s_Receiver_take_reply) (defScope s_Receiver_take_reply) .none kV4 dc4 pm4 an4 cd4 ct4), sl4⟩) (c4 : PySem.W.codeIn K cd4 "Receiver.take_reply" = true) (k4 : PySem.W.keepIn K (.ref f4) = true)
    (a5 : PySem.W.findIn K (.ref C) "take_squitter" = some (some (.ref f5))) (i5 : PySem.W.isFn K (.ref f5) = true) (l5 : K.lookup f5 = some ⟨oc5, od5, .func (PySem.W.fnOf "take_squitter" "Receiver.take_squitter" (defArgs s_Receiver_take_squitter) (defBody s_Receiver_take_squitter) (defScope s_Receiver_take_squitter) .none kV5 dc5 pm5 an5 cd5 ct5), sl5⟩) (c5 : PySem.W.codeIn K cd5 "Receiver.take_squitter" = true) (k5 : PySem.W.keepIn K (.ref f5) = true)
    (a6 : PySem.W.findIn K (.ref C) "spot_of" = some (some (.ref f6))) (i6 : PySem.W.isFn K (.ref f6) = true) (l6 : K.lookup f6 = some ⟨oc6, od6, .func (PySem.W.fnOf "spot_of" "Receiver.spot_of" (defArgs s_Receiver_spot_of) (defBody s_Receiver_spot_of) (defScope s_Receiver_spot_of) .none kV6 dc6 pm6 an6 cd6 ct6), sl6⟩) (c6 : PySem.W.codeIn K cd6 "Receiver.spot_of" = true) (k6 : PySem.W.keepIn K (.ref f6) = true)
    (a7 : PySem.W.findIn K (.ref C) "known_or_new" = some (some (.ref f7))) (i7 : PySem.W.isFn K (.ref f7) = true) (l7 : K.lookup f7 = some ⟨oc7, od7, .func (PySem.W.fnOf "known_or_new" "Receiver.known_or_new" (defArgs s_Receiver_known_or_new) (defBody s_Receiver_known_or_new) (defScope s_Receiver_known_or_new) .none kV7 dc7 pm7 an7 cd7 ct7), sl7⟩) (c7 : PySem.W.codeIn K cd7 "Receiver.known_or_new" = true) (k7 : PySem.W.keepIn K (.ref f7) = true)
    (a8 : PySem.W.findIn K (.ref C) "hear" = some (some (.ref f8))) (i8 : PySem.W.isFn K (.ref f8) = true) (l8 : K.lookup f8 = some ⟨oc8, od8, .func (PySem.W.fnOf "hear" "Receiver.hear" (defArgs s_Receiver_hear) (defBody s_Receiver_hear) (defScope s_Receiver_hear) .none kV8 dc8 pm8 an8 cd8 ct8), sl8⟩) (c8 : PySem.W.codeIn K cd8 "Receiver.hear" = true) (k8 : PySem.W.keepIn K (.ref f8) = true)
    (a9 : PySem.W.findIn K (.ref C) "how_many" = some (some (.ref f9))) (i9 : PySem.W.isFn K (.ref f9) = true) (l9 : K.lookup f9 = some ⟨oc9, od9, .func (PySem.W.fnOf "how_many" "Receiver.how_many" (defArgs s_Receiver_how_many) (defBody s_Receiver_how_many) (defScope s_Receiver_how_many) .none kV9 dc9 pm9 an9 cd9 ct9), sl9⟩) (c9 : PySem.W.codeIn K cd9 "Receiver.how_many" = true) (k9 : PySem.W.keepIn K (.ref f9) = true)
    (a10 : PySem.W.findIn K (.ref C) "tell_numbers" = some (some (.ref f10))) (i10 : PySem.W.isFn K (.ref f10) = true) (l10 : K.lookup f10 = some ⟨oc10, od10, .func (PySem.W.fnOf "tell_numbers" "Receiver.tell_numbers" (defArgs s_Receiver_tell_numbers) (defBody s_Receiver_tell_numbers) (defScope s_Receiver_tell_numbers) .none kV10 dc10 pm10 an10 cd10 ct10), sl10⟩) (c10 : PySem.W.codeIn K cd10 "Receiver.tell_numbers" = true) (k10 : PySem.W.keepIn K (.ref f10) = true)
    (a11 : PySem.W.findIn K (.ref C) "tell_name" = some (some (.ref f11))) (i11 : PySem.W.isFn K (.ref f11) = true) (l11 : K.lookup f11 = some ⟨oc11, od11, .func (PySem.W.fnOf "tell_name" "Receiver.tell_name" (defArgs s_Receiver_tell_name) (defBody s_Receiver_tell_name) (defScope s_Receiver_tell_name) .none kV11 dc11 pm11 an11 cd11 ct11), sl11⟩) (c11 : PySem.W.codeIn K cd11 "Receiver.tell_name" = true) (k11 : PySem.W.keepIn K (.ref f11) = true) : Cl_Receiver K mg :=
  ⟨C, f0, f1, f2, f3, f4, f5, f6, f7, f8, f9, f10, f11, _, _, _, _, _, _, _, _, _, _, _, _, ⟨pg, hd, po, sa⟩, ⟨mk, a0, i0, kc⟩, PySem.W.mg_of X G aC, n_now, n_known, fun_mk l0 c0 k0, fun_mk l1 c1 k1, fun_mk l2 c2 k2, fun_mk l3 c3 k3, fun_mk l4 c4 k4, fun_mk l5 c5 k5, fun_mk l6 c6 k6, fun_mk l7 c7 k7, fun_mk l8 c8 k8, fun_mk l9 c9 k9, fun_mk l10 c10 k10, fun_mk l11 c11 k11, ⟨a1, i1, k1⟩, ⟨a2, i2, k2⟩, ⟨a3, i3, k3⟩, ⟨a4, i4, k4⟩, ⟨a5, i5, k5⟩, ⟨a6, i6, k6⟩, ⟨a7, i7, k7⟩, ⟨a8, i8, k8⟩, ⟨a9, i9, k9⟩, ⟨a10, i10, k10⟩, ⟨a11, i11, k11⟩⟩

end Ph

namespace Ph
open PySem PySem.W L2
theorem ints_of {ns : List Int} : ([WData.list (ns.map WData.int)] : List WData) = [ofPy (PyData.list (ns.map PyData.int))] := by
  rw [← ofPys_ints]
  rfl
theorem pre_says {ns : List Int} (h : PySem.Challenge.rw_planesheard_s01_answers.pre [.list (ns.map WData.int)] = true) :
    ns.length ≤ 30000 ∧ (∀ x ∈ ns, 0 ≤ x ∧ x ≤ 4294967295) ∧ PyQl35.answers_asked ns = true ∧ PySem.Challenge.rw_planesheard_s01_answers.post [.list (ns.map WData.int)] (.list ((PyQl35.answers ns).map WData.int)) = true := by
  rw [ints_of] at h ⊢
  obtain ⟨osDec, osLeast, osMost, osItems⟩ := os_dec_ints (os_pre_isSome h)
  have osAsked := os_pre_asked h osDec
  refine ⟨osMost, osItems, osAsked, os_post osDec ?_⟩
  exact same_self _
theorem walk_answers {q : Program} {loose : List Str} {XP : (Str → Option Value) → Heap → Prop} {YP : World → Heap → Prop} {d : DefRec} {K : Params → Frag} (hdf : d.params.defaults = [])
    (hY : ∀ (w : World) (h : Heap), YP w h → (K w.params).In h)
    (F : ∀ (w : World) (mg : Str → Option Value) (fa : Addr) (h : Heap), (K w.params).In h → h.Ns mainGlobals mg → mg d.name = some (.ref fa) →
      ∃ fd : FuncData, (∀ (s : Shared) (u : Value), BindsTo s fd ⟨[u], []⟩ [("calls", u)]) ∧
        ∀ base : Heap, (K w.params).In base → base.Ns mainGlobals mg → FnOk PySem.Challenge.rw_planesheard_s01_answers.prog w (K w.params) mg base CX0 13 fa fd ["calls"] (sp_answers (K w.params))) :
    WalkOS q loose XP YP PySem.Challenge.rw_planesheard_s01_answers d [] (fun f vs => PySem.call f vs) :=
  walk_spec (r := PySem.Challenge.rw_planesheard_s01_answers) (n := 30000) (sp := sp_answers) (ans := PyQl35.answers) (x := "calls") rfl (by decide) hdf ⟨rfl, by decide, by decide⟩ hY (fun ns h => ⟨(pre_says h).1, (pre_says h).2.2.2⟩) F
    fun K H a ns h hO hS => ⟨a, ns, rfl, hO, hS, (pre_says h).1, (pre_says h).2.1, (pre_says h).2.2.1, fun v H' q => q⟩
end Ph
/-! The head lays a quick twin of each of its own constants, and proves each equal: that is most of the compiled text (100 MB), and not needed here. The names of the big ones are taken ahead, so they are not laid. -/
def PySem.W.Fast.tw3822503906728662958 : Nat := 0
def PySem.W.Fast.tw7405994915534584802 : Nat := 0
def PySem.W.Fast.tw13020213041005215861 : Nat := 0
def PySem.W.Fast.tw2276436868728019557 : Nat := 0
def PySem.W.Fast.tw15389929284169839024 : Nat := 0
def PySem.W.Fast.tw3997103609799456296 : Nat := 0
def PySem.W.Fast.tw3769390338169493490 : Nat := 0
def PySem.W.Fast.tw11592067443594268005 : Nat := 0
def PySem.W.Fast.tw4746056201542870847 : Nat := 0
def PySem.W.Fast.tw12057882392620824497 : Nat := 0
def PySem.W.Fast.tw7944346243227591058 : Nat := 0
def PySem.W.Fast.tw12991521754587975358 : Nat := 0
def PySem.W.Fast.tw18404884459191930698 : Nat := 0
def PySem.W.Fast.tw1189897811874875838 : Nat := 0
def PySem.W.Fast.tw15011415908687590730 : Nat := 0
def PySem.W.Fast.tw16669797670811190674 : Nat := 0
def PySem.W.Fast.tw7983351966722890814 : Nat := 0
def PySem.W.Fast.tw4294319096250046522 : Nat := 0
def PySem.W.Fast.tw9280777949553200894 : Nat := 0
def PySem.W.Fast.tw14626541067181851050 : Nat := 0
def PySem.W.Fast.tw7158682706182233829 : Nat := 0
def PySem.W.Fast.tw13921439164727217047 : Nat := 0
def PySem.W.Fast.tw7851890403625316777 : Nat := 0
def PySem.W.Fast.tw1886234402828001452 : Nat := 0
def PySem.W.Fast.tw1520250642588406628 : Nat := 0
def PySem.W.Fast.tw9907023248072111578 : Nat := 0
def PySem.W.Fast.tw5942713828451380831 : Nat := 0
def PySem.W.Fast.tw6935679275796516635 : Nat := 0
def PySem.W.Fast.tw2419322320770514914 : Nat := 0
def PySem.W.Fast.tw12903919721496820715 : Nat := 0
def PySem.W.Fast.tw8801470140577116670 : Nat := 0
def PySem.W.Fast.tw340345915579127555 : Nat := 0
def PySem.W.Fast.tw9988975046060754256 : Nat := 0
def PySem.W.Fast.tw15706648646829472610 : Nat := 0
def PySem.W.Fast.tw15653542976976961606 : Nat := 0
def PySem.W.Fast.tw9739857492244411287 : Nat := 0
def PySem.W.Fast.tw15694814513002807154 : Nat := 0
def PySem.W.Fast.tw11830616370752852174 : Nat := 0
def PySem.W.Fast.tw1518230632645207459 : Nat := 0
def PySem.W.Fast.tw18086273015475781041 : Nat := 0
def PySem.W.Fast.tw1459681585079181192 : Nat := 0
def PySem.W.Fast.tw8238735225282848433 : Nat := 0
def PySem.W.Fast.tw8300793017602994004 : Nat := 0
def PySem.W.Fast.tw5757742733357071691 : Nat := 0
def PySem.W.Fast.tw6457718773848424176 : Nat := 0
def PySem.W.Fast.tw3789826070151729330 : Nat := 0
def PySem.W.Fast.tw12937309848782247265 : Nat := 0
def PySem.W.Fast.tw7903711911624523072 : Nat := 0
def PySem.W.Fast.tw12752521461814891432 : Nat := 0
def PySem.W.Fast.tw2394570460985117504 : Nat := 0
def PySem.W.Fast.tw2516834962081043478 : Nat := 0
def PySem.W.Fast.tw4202322615413223910 : Nat := 0
def PySem.W.Fast.tw17179125651033458536 : Nat := 0
def PySem.W.Fast.tw7197443539374347726 : Nat := 0
def PySem.W.Fast.tw7324621668930791556 : Nat := 0
def PySem.W.Fast.tw5558350780308235680 : Nat := 0
def PySem.W.Fast.tw15349821376030111395 : Nat := 0
def PySem.W.Fast.tw9989475248358536012 : Nat := 0
def PySem.W.Fast.tw5219580546167834736 : Nat := 0
def PySem.W.Fast.tw1494672143875997343 : Nat := 0
def PySem.W.Fast.tw4769327393359328066 : Nat := 0
def PySem.W.Fast.tw17089191382098987599 : Nat := 0
def PySem.W.Fast.tw13088799309447004599 : Nat := 0
def PySem.W.Fast.tw18155564199069182309 : Nat := 0
def PySem.W.Fast.tw4290123897671653877 : Nat := 0
def PySem.W.Fast.tw9185657178684307886 : Nat := 0
def PySem.W.Fast.tw6539474561220947528 : Nat := 0
def PySem.W.Fast.tw7286093315971011020 : Nat := 0
def PySem.W.Fast.tw8017560993033613671 : Nat := 0
def PySem.W.Fast.tw31295905145159376 : Nat := 0
def PySem.W.Fast.tw16665194084220696458 : Nat := 0
def PySem.W.Fast.tw3181141478954328337 : Nat := 0
def PySem.W.Fast.tw13762535336645236161 : Nat := 0
def PySem.W.Fast.tw1653426993706443178 : Nat := 0
def PySem.W.Fast.tw14935374318450759775 : Nat := 0
def PySem.W.Fast.tw7338334044461887419 : Nat := 0
def PySem.W.Fast.tw13700611506473519638 : Nat := 0
def PySem.W.Fast.tw4264351753137436805 : Nat := 0
def PySem.W.Fast.tw6134353589344847615 : Nat := 0
def PySem.W.Fast.tw3255831879802737419 : Nat := 0
def PySem.W.Fast.tw2149676615613456007 : Nat := 0
def PySem.W.Fast.tw4960551600484407879 : Nat := 0
def PySem.W.Fast.tw7097241994145182876 : Nat := 0
def PySem.W.Fast.tw457765425325676452 : Nat := 0
def PySem.W.Fast.tw12369877283027430425 : Nat := 0
def PySem.W.Fast.tw8528897176309924799 : Nat := 0
def PySem.W.Fast.tw16204431055322181200 : Nat := 0
def PySem.W.Fast.tw5022866766356000321 : Nat := 0
def PySem.W.Fast.tw10558859683027422676 : Nat := 0
def PySem.W.Fast.tw8257075256953388470 : Nat := 0
def PySem.W.Fast.tw8018518062026907395 : Nat := 0
def PySem.W.Fast.tw9722974456734359060 : Nat := 0
def PySem.W.Fast.tw10310575903149051334 : Nat := 0
def PySem.W.Fast.tw7739200112957032899 : Nat := 0
def PySem.W.Fast.tw2748645077074714290 : Nat := 0
def PySem.W.Fast.tw17556203747250463598 : Nat := 0
def PySem.W.Fast.tw2274664384699898871 : Nat := 0
def PySem.W.Fast.tw10145085301563767477 : Nat := 0
def PySem.W.Fast.tw1119349120165669819 : Nat := 0
def PySem.W.Fast.tw17015377571993251116 : Nat := 0
def PySem.W.Fast.tw11461845936920075200 : Nat := 0
def PySem.W.Fast.tw4543301636170125364 : Nat := 0
def PySem.W.Fast.tw11668633622912517185 : Nat := 0
def PySem.W.Fast.tw267832696411143507 : Nat := 0
def PySem.W.Fast.tw310382451125032852 : Nat := 0
def PySem.W.Fast.tw12486743138860825646 : Nat := 0
def PySem.W.Fast.tw7193859721950300296 : Nat := 0
def PySem.W.Fast.tw17832805276942747192 : Nat := 0
def PySem.W.Fast.tw3559955973144673241 : Nat := 0
def PySem.W.Fast.tw7443571547945153008 : Nat := 0
def PySem.W.Fast.tw4219950170753302287 : Nat := 0
def PySem.W.Fast.tw11810742160430196252 : Nat := 0
def PySem.W.Fast.tw71985870695523152 : Nat := 0
def PySem.W.Fast.tw16150019072532604925 : Nat := 0
def PySem.W.Fast.tw14325795017620581310 : Nat := 0
def PySem.W.Fast.tw9195347900851499628 : Nat := 0
def PySem.W.Fast.tw17358371110914531367 : Nat := 0
def PySem.W.Fast.tw14718886257363485442 : Nat := 0
def PySem.W.Fast.tw8854972126890576932 : Nat := 0
def PySem.W.Fast.tw9464691012641237653 : Nat := 0
def PySem.W.Fast.tw1675106709306791041 : Nat := 0
def PySem.W.Fast.tw668725383931589304 : Nat := 0
def PySem.W.Fast.tw7145128077103225397 : Nat := 0
def PySem.W.Fast.tw5842661352667951487 : Nat := 0
def PySem.W.Fast.tw11768412552743244528 : Nat := 0
def PySem.W.Fast.tw12705720482036371766 : Nat := 0
def PySem.W.Fast.tw2873837659571602653 : Nat := 0
def PySem.W.Fast.tw3150802718038276419 : Nat := 0
def PySem.W.Fast.tw5669538218675568574 : Nat := 0
def PySem.W.Fast.tw2656189245772440248 : Nat := 0
def PySem.W.Fast.tw15371499627441222873 : Nat := 0
def PySem.W.Fast.tw15923557562540284088 : Nat := 0
def PySem.W.Fast.tw6904686463457332498 : Nat := 0
def PySem.W.Fast.tw2599460253418511595 : Nat := 0
def PySem.W.Fast.tw5850964628691970177 : Nat := 0
def PySem.W.Fast.tw11667671177647135420 : Nat := 0
def PySem.W.Fast.tw9918651053936817435 : Nat := 0
def PySem.W.Fast.tw290734359346842134 : Nat := 0
def PySem.W.Fast.tw18120405577943506248 : Nat := 0
def PySem.W.Fast.tw4674921988653914169 : Nat := 0
def PySem.W.Fast.tw12095608089376933950 : Nat := 0
def PySem.W.Fast.tw9620570200485122506 : Nat := 0
def PySem.W.Fast.tw8075496899444207427 : Nat := 0
def PySem.W.Fast.tw4633420682017632170 : Nat := 0
def PySem.W.Fast.tw8978402684366952129 : Nat := 0
def PySem.W.Fast.tw9661828057941743853 : Nat := 0
def PySem.W.Fast.tw15289262069677123907 : Nat := 0
def PySem.W.Fast.tw9081560133079159160 : Nat := 0
def PySem.W.Fast.tw9509349776184640324 : Nat := 0
def PySem.W.Fast.tw2627681703229695799 : Nat := 0
def PySem.W.Fast.tw3594841331680323969 : Nat := 0
def PySem.W.Fast.tw4564942531795605856 : Nat := 0
def PySem.W.Fast.tw16686536787119640149 : Nat := 0
def PySem.W.Fast.tw1968202651613897642 : Nat := 0
def PySem.W.Fast.tw5470741064653604562 : Nat := 0
def PySem.W.Fast.tw16620734100782859197 : Nat := 0
def PySem.W.Fast.tw9880222708686376073 : Nat := 0
def PySem.W.Fast.tw18189095804280331606 : Nat := 0
def PySem.W.Fast.tw15253834937098661452 : Nat := 0
def PySem.W.Fast.tw12611454659411527289 : Nat := 0
def PySem.W.Fast.tw11588662134314614142 : Nat := 0
def PySem.W.Fast.tw15512928951410309649 : Nat := 0
def PySem.W.Fast.tw383177747776487219 : Nat := 0
def PySem.W.Fast.tw13242756192528292012 : Nat := 0
def PySem.W.Fast.tw9235849887890233951 : Nat := 0
def PySem.W.Fast.tw17029967615280583443 : Nat := 0
def PySem.W.Fast.tw5587645614567810142 : Nat := 0
def PySem.W.Fast.tw4591968819114434511 : Nat := 0
def PySem.W.Fast.tw2318882005772807886 : Nat := 0
def PySem.W.Fast.tw15048990806684322861 : Nat := 0
def PySem.W.Fast.tw17576126331355108256 : Nat := 0
def PySem.W.Fast.tw3992841257293273782 : Nat := 0
def PySem.W.Fast.tw18363601861549620924 : Nat := 0
def PySem.W.Fast.tw8217554907305027177 : Nat := 0
def PySem.W.Fast.tw16329192099214797162 : Nat := 0
def PySem.W.Fast.tw16386648766882749359 : Nat := 0
open PySem PySem.W PyProof.Rows
set_option maxRecDepth 100000 in
set_option maxHeartbeats 0 in
theorem PySem.Challenge.cw_planesheard_s01_answers_holds : PySem.Challenge.rw_planesheard_s01_answers.Holds := by
  w_on; k_headS; (case hw => exact ⟨[.list [.int 0]], by decide +kernel, by decide +kernel⟩)
  k_fillS
  refine Ph.walk_answers rfl (fun w h Y => PySem.W.kIn_of Y) ?F
  case F =>
    intro w mg fa h KX G hmg
    have h_Angle : Ph.Cl_Angle (L2.KOf KX) mg := by
      try dsimp only [L2.KOf]
      refine' Ph.cls_Angle KX G ?aC ?pg ?hd ?po ?sa ?mk ?kc ?n_parts ?n_zones ?a0 ?i0 ?l0 ?c0 ?k0 ?a1 ?i1 ?l1 ?c1 ?k1 ?a2 ?i2 ?l2 ?c2 ?k2 ?a3 ?i3 ?l3 ?c3 ?k3 ?a4 ?i4 ?l4 ?c4 ?k4
      (case aC => k_is); (case pg => k_is); (case hd => k_is); (case po => k_is); (case sa => k_is); (case mk => k_is); (case kc => k_is); (case n_parts => k_is); (case n_zones => k_is); (case a0 => k_is); (case i0 => k_is); (case l0 => k_is); (case c0 => k_is); (case k0 => k_is); (case a1 => k_is); (case i1 => k_is); (case l1 => k_is); (case c1 => k_is); (case k1 => k_is); (case a2 => k_is); (case i2 => k_is); (case l2 => k_is); (case c2 => k_is); (case k2 => k_is); (case a3 => k_is); (case i3 => k_is); (case l3 => k_is); (case c3 => k_is); (case k3 => k_is); (case a4 => k_is); (case i4 => k_is); (case l4 => k_is); (case c4 => k_is); (case k4 => k_is)
    obtain ⟨C_Angle, f_Angle___init__, f_Angle_circle, f_Angle_told, f_Angle_reaches, f_Angle_moved, d_Angle___init__, d_Angle_circle, d_Angle_told, d_Angle_reaches, d_Angle_moved, cl_Angle, mk_Angle, mg_Angle, na_Angle_parts, na_Angle_zones, fn_Angle___init__, fn_Angle_circle, fn_Angle_told, fn_Angle_reaches, fn_Angle_moved, me_Angle_circle, me_Angle_told, me_Angle_reaches, me_Angle_moved⟩ := h_Angle
    have h_Half : Ph.Cl_Half (L2.KOf KX) mg := by
      try dsimp only [L2.KOf]
      refine' Ph.cls_Half KX G ?aC ?pg ?hd ?po ?sa ?mk ?kc ?n_odd ?n_y ?n_x ?n_heard ?a0 ?i0 ?l0 ?c0 ?k0
      (case aC => k_is); (case pg => k_is); (case hd => k_is); (case po => k_is); (case sa => k_is); (case mk => k_is); (case kc => k_is); (case n_odd => k_is); (case n_y => k_is); (case n_x => k_is); (case n_heard => k_is); (case a0 => k_is); (case i0 => k_is); (case l0 => k_is); (case c0 => k_is); (case k0 => k_is)
    obtain ⟨C_Half, f_Half___init__, d_Half___init__, cl_Half, mk_Half, mg_Half, na_Half_odd, na_Half_y, na_Half_x, na_Half_heard, fn_Half___init__⟩ := h_Half
    have h_Place : Ph.Cl_Place (L2.KOf KX) mg := by
      try dsimp only [L2.KOf]
      refine' Ph.cls_Place KX G ?aC ?pg ?hd ?po ?sa ?mk ?kc ?n_latitude ?n_longitude ?a0 ?i0 ?l0 ?c0 ?k0
      (case aC => k_is); (case pg => k_is); (case hd => k_is); (case po => k_is); (case sa => k_is); (case mk => k_is); (case kc => k_is); (case n_latitude => k_is); (case n_longitude => k_is); (case a0 => k_is); (case i0 => k_is); (case l0 => k_is); (case c0 => k_is); (case k0 => k_is)
    obtain ⟨C_Place, f_Place___init__, d_Place___init__, cl_Place, mk_Place, mg_Place, na_Place_latitude, na_Place_longitude, fn_Place___init__⟩ := h_Place
    have h_Aircraft : Ph.Cl_Aircraft (L2.KOf KX) mg := by
      try dsimp only [L2.KOf]
      refine' Ph.cls_Aircraft KX G ?aC ?pg ?hd ?po ?sa ?mk ?kc ?n_address ?n_heard ?n_name ?n_height ?n_identity ?n_east ?n_north ?n_climb ?n_place ?n_place_heard ?n_halves ?a0 ?i0 ?l0 ?c0 ?k0 ?a1 ?i1 ?l1 ?c1 ?k1 ?a2 ?i2 ?l2 ?c2 ?k2 ?a3 ?i3 ?l3 ?c3 ?k3 ?a4 ?i4 ?l4 ?c4 ?k4 ?a5 ?i5 ?l5 ?c5 ?k5 ?a6 ?i6 ?l6 ?c6 ?k6
      (case aC => k_is); (case pg => k_is); (case hd => k_is); (case po => k_is); (case sa => k_is); (case mk => k_is); (case kc => k_is); (case n_address => k_is); (case n_heard => k_is); (case n_name => k_is); (case n_height => k_is); (case n_identity => k_is); (case n_east => k_is); (case n_north => k_is); (case n_climb => k_is); (case n_place => k_is); (case n_place_heard => k_is); (case n_halves => k_is); (case a0 => k_is); (case i0 => k_is); (case l0 => k_is); (case c0 => k_is); (case k0 => k_is); (case a1 => k_is); (case i1 => k_is); (case l1 => k_is); (case c1 => k_is); (case k1 => k_is); (case a2 => k_is); (case i2 => k_is); (case l2 => k_is); (case c2 => k_is); (case k2 => k_is); (case a3 => k_is); (case i3 => k_is); (case l3 => k_is); (case c3 => k_is); (case k3 => k_is); (case a4 => k_is); (case i4 => k_is); (case l4 => k_is); (case c4 => k_is); (case k4 => k_is); (case a5 => k_is); (case i5 => k_is); (case l5 => k_is); (case c5 => k_is); (case k5 => k_is); (case a6 => k_is); (case i6 => k_is); (case l6 => k_is); (case c6 => k_is); (case k6 => k_is)
    obtain ⟨C_Aircraft, f_Aircraft___init__, f_Aircraft_numbers_at, f_Aircraft_take_height, f_Aircraft_take_extended, f_Aircraft_take_half, f_Aircraft_place_by_both, f_Aircraft_place_by_known, d_Aircraft___init__, d_Aircraft_numbers_at, d_Aircraft_take_height, d_Aircraft_take_extended, d_Aircraft_take_half, d_Aircraft_place_by_both, d_Aircraft_place_by_known, cl_Aircraft, mk_Aircraft, mg_Aircraft, na_Aircraft_address, na_Aircraft_heard, na_Aircraft_name, na_Aircraft_height, na_Aircraft_identity, na_Aircraft_east, na_Aircraft_north, na_Aircraft_climb, na_Aircraft_place, na_Aircraft_place_heard, na_Aircraft_halves, fn_Aircraft___init__, fn_Aircraft_numbers_at, fn_Aircraft_take_height, fn_Aircraft_take_extended, fn_Aircraft_take_half, fn_Aircraft_place_by_both, fn_Aircraft_place_by_known, me_Aircraft_numbers_at, me_Aircraft_take_height, me_Aircraft_take_extended, me_Aircraft_take_half, me_Aircraft_place_by_both, me_Aircraft_place_by_known⟩ := h_Aircraft
    have h_Receiver : Ph.Cl_Receiver (L2.KOf KX) mg := by
      try dsimp only [L2.KOf]
      refine' Ph.cls_Receiver KX G ?aC ?pg ?hd ?po ?sa ?mk ?kc ?n_now ?n_known ?a0 ?i0 ?l0 ?c0 ?k0 ?a1 ?i1 ?l1 ?c1 ?k1 ?a2 ?i2 ?l2 ?c2 ?k2 ?a3 ?i3 ?l3 ?c3 ?k3 ?a4 ?i4 ?l4 ?c4 ?k4 ?a5 ?i5 ?l5 ?c5 ?k5 ?a6 ?i6 ?l6 ?c6 ?k6 ?a7 ?i7 ?l7 ?c7 ?k7 ?a8 ?i8 ?l8 ?c8 ?k8 ?a9 ?i9 ?l9 ?c9 ?k9 ?a10 ?i10 ?l10 ?c10 ?k10 ?a11 ?i11 ?l11 ?c11 ?k11
      (case aC => k_is); (case pg => k_is); (case hd => k_is); (case po => k_is); (case sa => k_is); (case mk => k_is); (case kc => k_is); (case n_now => k_is); (case n_known => k_is); (case a0 => k_is); (case i0 => k_is); (case l0 => k_is); (case c0 => k_is); (case k0 => k_is); (case a1 => k_is); (case i1 => k_is); (case l1 => k_is); (case c1 => k_is); (case k1 => k_is); (case a2 => k_is); (case i2 => k_is); (case l2 => k_is); (case c2 => k_is); (case k2 => k_is); (case a3 => k_is); (case i3 => k_is); (case l3 => k_is); (case c3 => k_is); (case k3 => k_is); (case a4 => k_is); (case i4 => k_is); (case l4 => k_is); (case c4 => k_is); (case k4 => k_is); (case a5 => k_is); (case i5 => k_is); (case l5 => k_is); (case c5 => k_is); (case k5 => k_is); (case a6 => k_is); (case i6 => k_is); (case l6 => k_is); (case c6 => k_is); (case k6 => k_is); (case a7 => k_is); (case i7 => k_is); (case l7 => k_is); (case c7 => k_is); (case k7 => k_is); (case a8 => k_is); (case i8 => k_is); (case l8 => k_is); (case c8 => k_is); (case k8 => k_is); (case a9 => k_is); (case i9 => k_is); (case l9 => k_is); (case c9 => k_is); (case k9 => k_is); (case a10 => k_is); (case i10 => k_is); (case l10 => k_is); (case c10 => k_is); (case k10 => k_is); (case a11 => k_is); (case i11 => k_is); (case l11 => k_is); (case c11 => k_is); (case k11 => k_is)
    obtain ⟨C_Receiver, f_Receiver___init__, f_Receiver_begin, f_Receiver_take_message, f_Receiver_set_time, f_Receiver_take_reply, f_Receiver_take_squitter, f_Receiver_spot_of, f_Receiver_known_or_new, f_Receiver_hear, f_Receiver_how_many, f_Receiver_tell_numbers, f_Receiver_tell_name, d_Receiver___init__, d_Receiver_begin, d_Receiver_take_message, d_Receiver_set_time, d_Receiver_take_reply, d_Receiver_take_squitter, d_Receiver_spot_of, d_Receiver_known_or_new, d_Receiver_hear, d_Receiver_how_many, d_Receiver_tell_numbers, d_Receiver_tell_name, cl_Receiver, mk_Receiver, mg_Receiver, na_Receiver_now, na_Receiver_known, fn_Receiver___init__, fn_Receiver_begin, fn_Receiver_take_message, fn_Receiver_set_time, fn_Receiver_take_reply, fn_Receiver_take_squitter, fn_Receiver_spot_of, fn_Receiver_known_or_new, fn_Receiver_hear, fn_Receiver_how_many, fn_Receiver_tell_numbers, fn_Receiver_tell_name, me_Receiver_begin, me_Receiver_take_message, me_Receiver_set_time, me_Receiver_take_reply, me_Receiver_take_squitter, me_Receiver_spot_of, me_Receiver_known_or_new, me_Receiver_hear, me_Receiver_how_many, me_Receiver_tell_numbers, me_Receiver_tell_name⟩ := h_Receiver
    obtain ⟨f_number_of_bytes, d_number_of_bytes, fn_number_of_bytes, mg_number_of_bytes⟩ : ∃ (f : Addr) (fd : FuncData), L2.Fun (L2.KOf KX) "number_of_bytes" "number_of_bytes" Ph.s_number_of_bytes f fd ∧ mg "number_of_bytes" = some (.ref f) := by
      try dsimp only [L2.KOf]
      refine' Ph.def_mk KX G ?a ?l ?c ?k
      (case a => k_is); (case l => k_is); (case c => k_is); (case k => k_is)
    obtain ⟨f_bits_between, d_bits_between, fn_bits_between, mg_bits_between⟩ : ∃ (f : Addr) (fd : FuncData), L2.Fun (L2.KOf KX) "bits_between" "bits_between" Ph.s_bits_between f fd ∧ mg "bits_between" = some (.ref f) := by
      try dsimp only [L2.KOf]
      refine' Ph.def_mk KX G ?a ?l ?c ?k
      (case a => k_is); (case l => k_is); (case c => k_is); (case k => k_is)
    obtain ⟨f_rest_of, d_rest_of, fn_rest_of, mg_rest_of⟩ : ∃ (f : Addr) (fd : FuncData), L2.Fun (L2.KOf KX) "rest_of" "rest_of" Ph.s_rest_of f fd ∧ mg "rest_of" = some (.ref f) := by
      try dsimp only [L2.KOf]
      refine' Ph.def_mk KX G ?a ?l ?c ?k
      (case a => k_is); (case l => k_is); (case c => k_is); (case k => k_is)
    obtain ⟨f_with_one_bit_turned, d_with_one_bit_turned, fn_with_one_bit_turned, mg_with_one_bit_turned⟩ : ∃ (f : Addr) (fd : FuncData), L2.Fun (L2.KOf KX) "with_one_bit_turned" "with_one_bit_turned" Ph.s_with_one_bit_turned f fd ∧ mg "with_one_bit_turned" = some (.ref f) := by
      try dsimp only [L2.KOf]
      refine' Ph.def_mk KX G ?a ?l ?c ?k
      (case a => k_is); (case l => k_is); (case c => k_is); (case k => k_is)
    obtain ⟨f_picked, d_picked, fn_picked, mg_picked⟩ : ∃ (f : Addr) (fd : FuncData), L2.Fun (L2.KOf KX) "picked" "picked" Ph.s_picked f fd ∧ mg "picked" = some (.ref f) := by
      try dsimp only [L2.KOf]
      refine' Ph.def_mk KX G ?a ?l ?c ?k
      (case a => k_is); (case l => k_is); (case c => k_is); (case k => k_is)
    obtain ⟨f_turned_back, d_turned_back, fn_turned_back, mg_turned_back⟩ : ∃ (f : Addr) (fd : FuncData), L2.Fun (L2.KOf KX) "turned_back" "turned_back" Ph.s_turned_back f fd ∧ mg "turned_back" = some (.ref f) := by
      try dsimp only [L2.KOf]
      refine' Ph.def_mk KX G ?a ?l ?c ?k
      (case a => k_is); (case l => k_is); (case c => k_is); (case k => k_is)
    obtain ⟨f_height_of, d_height_of, fn_height_of, mg_height_of⟩ : ∃ (f : Addr) (fd : FuncData), L2.Fun (L2.KOf KX) "height_of" "height_of" Ph.s_height_of f fd ∧ mg "height_of" = some (.ref f) := by
      try dsimp only [L2.KOf]
      refine' Ph.def_mk KX G ?a ?l ?c ?k
      (case a => k_is); (case l => k_is); (case c => k_is); (case k => k_is)
    obtain ⟨f_height_by_hundreds, d_height_by_hundreds, fn_height_by_hundreds, mg_height_by_hundreds⟩ : ∃ (f : Addr) (fd : FuncData), L2.Fun (L2.KOf KX) "height_by_hundreds" "height_by_hundreds" Ph.s_height_by_hundreds f fd ∧ mg "height_by_hundreds" = some (.ref f) := by
      try dsimp only [L2.KOf]
      refine' Ph.def_mk KX G ?a ?l ?c ?k
      (case a => k_is); (case l => k_is); (case c => k_is); (case k => k_is)
    obtain ⟨f_identity_of, d_identity_of, fn_identity_of, mg_identity_of⟩ : ∃ (f : Addr) (fd : FuncData), L2.Fun (L2.KOf KX) "identity_of" "identity_of" Ph.s_identity_of f fd ∧ mg "identity_of" = some (.ref f) := by
      try dsimp only [L2.KOf]
      refine' Ph.def_mk KX G ?a ?l ?c ?k
      (case a => k_is); (case l => k_is); (case c => k_is); (case k => k_is)
    obtain ⟨f_beyond_a_pole, d_beyond_a_pole, fn_beyond_a_pole, mg_beyond_a_pole⟩ : ∃ (f : Addr) (fd : FuncData), L2.Fun (L2.KOf KX) "beyond_a_pole" "beyond_a_pole" Ph.s_beyond_a_pole f fd ∧ mg "beyond_a_pole" = some (.ref f) := by
      try dsimp only [L2.KOf]
      refine' Ph.def_mk KX G ?a ?l ?c ?k
      (case a => k_is); (case l => k_is); (case c => k_is); (case k => k_is)
    obtain ⟨f_zones_of_longitude, d_zones_of_longitude, fn_zones_of_longitude, mg_zones_of_longitude⟩ : ∃ (f : Addr) (fd : FuncData), L2.Fun (L2.KOf KX) "zones_of_longitude" "zones_of_longitude" Ph.s_zones_of_longitude f fd ∧ mg "zones_of_longitude" = some (.ref f) := by
      try dsimp only [L2.KOf]
      refine' Ph.def_mk KX G ?a ?l ?c ?k
      (case a => k_is); (case l => k_is); (case c => k_is); (case k => k_is)
    obtain ⟨f_nearest_angle, d_nearest_angle, fn_nearest_angle, mg_nearest_angle⟩ : ∃ (f : Addr) (fd : FuncData), L2.Fun (L2.KOf KX) "nearest_angle" "nearest_angle" Ph.s_nearest_angle f fd ∧ mg "nearest_angle" = some (.ref f) := by
      try dsimp only [L2.KOf]
      refine' Ph.def_mk KX G ?a ?l ?c ?k
      (case a => k_is); (case l => k_is); (case c => k_is); (case k => k_is)
    obtain ⟨f_place_out_of_halves, d_place_out_of_halves, fn_place_out_of_halves, mg_place_out_of_halves⟩ : ∃ (f : Addr) (fd : FuncData), L2.Fun (L2.KOf KX) "place_out_of_halves" "place_out_of_halves" Ph.s_place_out_of_halves f fd ∧ mg "place_out_of_halves" = some (.ref f) := by
      try dsimp only [L2.KOf]
      refine' Ph.def_mk KX G ?a ?l ?c ?k
      (case a => k_is); (case l => k_is); (case c => k_is); (case k => k_is)
    obtain ⟨f_place_near, d_place_near, fn_place_near, mg_place_near⟩ : ∃ (f : Addr) (fd : FuncData), L2.Fun (L2.KOf KX) "place_near" "place_near" Ph.s_place_near f fd ∧ mg "place_near" = some (.ref f) := by
      try dsimp only [L2.KOf]
      refine' Ph.def_mk KX G ?a ?l ?c ?k
      (case a => k_is); (case l => k_is); (case c => k_is); (case k => k_is)
    obtain ⟨f_nearest_whole_zone, d_nearest_whole_zone, fn_nearest_whole_zone, mg_nearest_whole_zone⟩ : ∃ (f : Addr) (fd : FuncData), L2.Fun (L2.KOf KX) "nearest_whole_zone" "nearest_whole_zone" Ph.s_nearest_whole_zone f fd ∧ mg "nearest_whole_zone" = some (.ref f) := by
      try dsimp only [L2.KOf]
      refine' Ph.def_mk KX G ?a ?l ?c ?k
      (case a => k_is); (case l => k_is); (case c => k_is); (case k => k_is)
    obtain ⟨f_latitude_in_zone, d_latitude_in_zone, fn_latitude_in_zone, mg_latitude_in_zone⟩ : ∃ (f : Addr) (fd : FuncData), L2.Fun (L2.KOf KX) "latitude_in_zone" "latitude_in_zone" Ph.s_latitude_in_zone f fd ∧ mg "latitude_in_zone" = some (.ref f) := by
      try dsimp only [L2.KOf]
      refine' Ph.def_mk KX G ?a ?l ?c ?k
      (case a => k_is); (case l => k_is); (case c => k_is); (case k => k_is)
    obtain ⟨f_longitude_in_zone, d_longitude_in_zone, fn_longitude_in_zone, mg_longitude_in_zone⟩ : ∃ (f : Addr) (fd : FuncData), L2.Fun (L2.KOf KX) "longitude_in_zone" "longitude_in_zone" Ph.s_longitude_in_zone f fd ∧ mg "longitude_in_zone" = some (.ref f) := by
      try dsimp only [L2.KOf]
      refine' Ph.def_mk KX G ?a ?l ?c ?k
      (case a => k_is); (case l => k_is); (case c => k_is); (case k => k_is)
    obtain ⟨f_zones_for_half, d_zones_for_half, fn_zones_for_half, mg_zones_for_half⟩ : ∃ (f : Addr) (fd : FuncData), L2.Fun (L2.KOf KX) "zones_for_half" "zones_for_half" Ph.s_zones_for_half f fd ∧ mg "zones_for_half" = some (.ref f) := by
      try dsimp only [L2.KOf]
      refine' Ph.def_mk KX G ?a ?l ?c ?k
      (case a => k_is); (case l => k_is); (case c => k_is); (case k => k_is)
    obtain ⟨f_within_half_a_circle, d_within_half_a_circle, fn_within_half_a_circle, mg_within_half_a_circle⟩ : ∃ (f : Addr) (fd : FuncData), L2.Fun (L2.KOf KX) "within_half_a_circle" "within_half_a_circle" Ph.s_within_half_a_circle f fd ∧ mg "within_half_a_circle" = some (.ref f) := by
      try dsimp only [L2.KOf]
      refine' Ph.def_mk KX G ?a ?l ?c ?k
      (case a => k_is); (case l => k_is); (case c => k_is); (case k => k_is)
    obtain ⟨f_bits_in, d_bits_in, fn_bits_in, mg_bits_in⟩ : ∃ (f : Addr) (fd : FuncData), L2.Fun (L2.KOf KX) "bits_in" "bits_in" Ph.s_bits_in f fd ∧ mg "bits_in" = some (.ref f) := by
      try dsimp only [L2.KOf]
      refine' Ph.def_mk KX G ?a ?l ?c ?k
      (case a => k_is); (case l => k_is); (case c => k_is); (case k => k_is)
    obtain ⟨f_kind_of, d_kind_of, fn_kind_of, mg_kind_of⟩ : ∃ (f : Addr) (fd : FuncData), L2.Fun (L2.KOf KX) "kind_of" "kind_of" Ph.s_kind_of f fd ∧ mg "kind_of" = some (.ref f) := by
      try dsimp only [L2.KOf]
      refine' Ph.def_mk KX G ?a ?l ?c ?k
      (case a => k_is); (case l => k_is); (case c => k_is); (case k => k_is)
    obtain ⟨f_name_in, d_name_in, fn_name_in, mg_name_in⟩ : ∃ (f : Addr) (fd : FuncData), L2.Fun (L2.KOf KX) "name_in" "name_in" Ph.s_name_in f fd ∧ mg "name_in" = some (.ref f) := by
      try dsimp only [L2.KOf]
      refine' Ph.def_mk KX G ?a ?l ?c ?k
      (case a => k_is); (case l => k_is); (case c => k_is); (case k => k_is)
    obtain ⟨f_name_byte, d_name_byte, fn_name_byte, mg_name_byte⟩ : ∃ (f : Addr) (fd : FuncData), L2.Fun (L2.KOf KX) "name_byte" "name_byte" Ph.s_name_byte f fd ∧ mg "name_byte" = some (.ref f) := by
      try dsimp only [L2.KOf]
      refine' Ph.def_mk KX G ?a ?l ?c ?k
      (case a => k_is); (case l => k_is); (case c => k_is); (case k => k_is)
    obtain ⟨f_height_in, d_height_in, fn_height_in, mg_height_in⟩ : ∃ (f : Addr) (fd : FuncData), L2.Fun (L2.KOf KX) "height_in" "height_in" Ph.s_height_in f fd ∧ mg "height_in" = some (.ref f) := by
      try dsimp only [L2.KOf]
      refine' Ph.def_mk KX G ?a ?l ?c ?k
      (case a => k_is); (case l => k_is); (case c => k_is); (case k => k_is)
    obtain ⟨f_half_in, d_half_in, fn_half_in, mg_half_in⟩ : ∃ (f : Addr) (fd : FuncData), L2.Fun (L2.KOf KX) "half_in" "half_in" Ph.s_half_in f fd ∧ mg "half_in" = some (.ref f) := by
      try dsimp only [L2.KOf]
      refine' Ph.def_mk KX G ?a ?l ?c ?k
      (case a => k_is); (case l => k_is); (case c => k_is); (case k => k_is)
    obtain ⟨f_speed_step_in, d_speed_step_in, fn_speed_step_in, mg_speed_step_in⟩ : ∃ (f : Addr) (fd : FuncData), L2.Fun (L2.KOf KX) "speed_step_in" "speed_step_in" Ph.s_speed_step_in f fd ∧ mg "speed_step_in" = some (.ref f) := by
      try dsimp only [L2.KOf]
      refine' Ph.def_mk KX G ?a ?l ?c ?k
      (case a => k_is); (case l => k_is); (case c => k_is); (case k => k_is)
    obtain ⟨f_speeds_in, d_speeds_in, fn_speeds_in, mg_speeds_in⟩ : ∃ (f : Addr) (fd : FuncData), L2.Fun (L2.KOf KX) "speeds_in" "speeds_in" Ph.s_speeds_in f fd ∧ mg "speeds_in" = some (.ref f) := by
      try dsimp only [L2.KOf]
      refine' Ph.def_mk KX G ?a ?l ?c ?k
      (case a => k_is); (case l => k_is); (case c => k_is); (case k => k_is)
    obtain ⟨f_climb_in, d_climb_in, fn_climb_in, mg_climb_in⟩ : ∃ (f : Addr) (fd : FuncData), L2.Fun (L2.KOf KX) "climb_in" "climb_in" Ph.s_climb_in f fd ∧ mg "climb_in" = some (.ref f) := by
      try dsimp only [L2.KOf]
      refine' Ph.def_mk KX G ?a ?l ?c ?k
      (case a => k_is); (case l => k_is); (case c => k_is); (case k => k_is)
    obtain ⟨f_signed, d_signed, fn_signed, mg_signed⟩ : ∃ (f : Addr) (fd : FuncData), L2.Fun (L2.KOf KX) "signed" "signed" Ph.s_signed f fd ∧ mg "signed" = some (.ref f) := by
      try dsimp only [L2.KOf]
      refine' Ph.def_mk KX G ?a ?l ?c ?k
      (case a => k_is); (case l => k_is); (case c => k_is); (case k => k_is)
    obtain ⟨f_size_of_call, d_size_of_call, fn_size_of_call, mg_size_of_call⟩ : ∃ (f : Addr) (fd : FuncData), L2.Fun (L2.KOf KX) "size_of_call" "size_of_call" Ph.s_size_of_call f fd ∧ mg "size_of_call" = some (.ref f) := by
      try dsimp only [L2.KOf]
      refine' Ph.def_mk KX G ?a ?l ?c ?k
      (case a => k_is); (case l => k_is); (case c => k_is); (case k => k_is)
    obtain ⟨f_answer_of, d_answer_of, fn_answer_of, mg_answer_of⟩ : ∃ (f : Addr) (fd : FuncData), L2.Fun (L2.KOf KX) "answer_of" "answer_of" Ph.s_answer_of f fd ∧ mg "answer_of" = some (.ref f) := by
      try dsimp only [L2.KOf]
      refine' Ph.def_mk KX G ?a ?l ?c ?k
      (case a => k_is); (case l => k_is); (case c => k_is); (case k => k_is)
    obtain ⟨f_answers, d_answers, fn_answers, mg_answers⟩ : ∃ (f : Addr) (fd : FuncData), L2.Fun (L2.KOf KX) "answers" "answers" Ph.s_answers f fd ∧ mg "answers" = some (.ref f) := by
      try dsimp only [L2.KOf]
      refine' Ph.def_mk KX G ?a ?l ?c ?k
      (case a => k_is); (case l => k_is); (case c => k_is); (case k => k_is)
    have gi_DIVISOR : ∃ t, mg "DIVISOR" = some (.int (33551369) t) := by
      try dsimp only [L2.KOf]
      refine' Ph.int_mk KX G ?a
      (case a => k_is)
    have gi_DIVISOR_TOP : ∃ t, mg "DIVISOR_TOP" = some (.int (16777216) t) := by
      try dsimp only [L2.KOf]
      refine' Ph.int_mk KX G ?a
      (case a => k_is)
    have gi_DIVISOR_POWER : ∃ t, mg "DIVISOR_POWER" = some (.int (24) t) := by
      try dsimp only [L2.KOf]
      refine' Ph.int_mk KX G ?a
      (case a => k_is)
    have gi_FORMAT_BITS : ∃ t, mg "FORMAT_BITS" = some (.int (5) t) := by
      try dsimp only [L2.KOf]
      refine' Ph.int_mk KX G ?a
      (case a => k_is)
    have gi_CODE_LENGTH : ∃ t, mg "CODE_LENGTH" = some (.int (13) t) := by
      try dsimp only [L2.KOf]
      refine' Ph.int_mk KX G ?a
      (case a => k_is)
    obtain ⟨k_M_SPOT, gr_M_SPOT, sq_M_SPOT⟩ : ∃ a, mg "M_SPOT" = some (.ref a) ∧ Ph.TupK (L2.KOf KX) a [7] := by
      try dsimp only [L2.KOf]
      refine' Ph.tup_mk KX G ?a ?l ?v
      (case a => k_is); (case l => k_is)
      (case v => exact ⟨by decide, by repeat (first | exact .nil | refine .cons ⟨_, rfl⟩ ?_)⟩)
    obtain ⟨k_Q_SPOT, gr_Q_SPOT, sq_Q_SPOT⟩ : ∃ a, mg "Q_SPOT" = some (.ref a) ∧ Ph.TupK (L2.KOf KX) a [9] := by
      try dsimp only [L2.KOf]
      refine' Ph.tup_mk KX G ?a ?l ?v
      (case a => k_is); (case l => k_is)
      (case v => exact ⟨by decide, by repeat (first | exact .nil | refine .cons ⟨_, rfl⟩ ?_)⟩)
    obtain ⟨k_PLAIN_SPOTS, gr_PLAIN_SPOTS, sq_PLAIN_SPOTS⟩ : ∃ a, mg "PLAIN_SPOTS" = some (.ref a) ∧ Ph.TupK (L2.KOf KX) a [1, 2, 3, 4, 5, 6, 8, 10, 11, 12, 13] := by
      try dsimp only [L2.KOf]
      refine' Ph.tup_mk KX G ?a ?l ?v
      (case a => k_is); (case l => k_is)
      (case v => exact ⟨by decide, by repeat (first | exact .nil | refine .cons ⟨_, rfl⟩ ?_)⟩)
    obtain ⟨k_FIVE_HUNDREDS_SPOTS, gr_FIVE_HUNDREDS_SPOTS, sq_FIVE_HUNDREDS_SPOTS⟩ : ∃ a, mg "FIVE_HUNDREDS_SPOTS" = some (.ref a) ∧ Ph.TupK (L2.KOf KX) a [11, 13, 2, 4, 6, 8, 10, 12] := by
      try dsimp only [L2.KOf]
      refine' Ph.tup_mk KX G ?a ?l ?v
      (case a => k_is); (case l => k_is)
      (case v => exact ⟨by decide, by repeat (first | exact .nil | refine .cons ⟨_, rfl⟩ ?_)⟩)
    obtain ⟨k_HUNDREDS_SPOTS, gr_HUNDREDS_SPOTS, sq_HUNDREDS_SPOTS⟩ : ∃ a, mg "HUNDREDS_SPOTS" = some (.ref a) ∧ Ph.TupK (L2.KOf KX) a [1, 3, 5] := by
      try dsimp only [L2.KOf]
      refine' Ph.tup_mk KX G ?a ?l ?v
      (case a => k_is); (case l => k_is)
      (case v => exact ⟨by decide, by repeat (first | exact .nil | refine .cons ⟨_, rfl⟩ ?_)⟩)
    obtain ⟨k_A_SPOTS, gr_A_SPOTS, sq_A_SPOTS⟩ : ∃ a, mg "A_SPOTS" = some (.ref a) ∧ Ph.TupK (L2.KOf KX) a [6, 4, 2] := by
      try dsimp only [L2.KOf]
      refine' Ph.tup_mk KX G ?a ?l ?v
      (case a => k_is); (case l => k_is)
      (case v => exact ⟨by decide, by repeat (first | exact .nil | refine .cons ⟨_, rfl⟩ ?_)⟩)
    obtain ⟨k_B_SPOTS, gr_B_SPOTS, sq_B_SPOTS⟩ : ∃ a, mg "B_SPOTS" = some (.ref a) ∧ Ph.TupK (L2.KOf KX) a [12, 10, 8] := by
      try dsimp only [L2.KOf]
      refine' Ph.tup_mk KX G ?a ?l ?v
      (case a => k_is); (case l => k_is)
      (case v => exact ⟨by decide, by repeat (first | exact .nil | refine .cons ⟨_, rfl⟩ ?_)⟩)
    obtain ⟨k_C_SPOTS, gr_C_SPOTS, sq_C_SPOTS⟩ : ∃ a, mg "C_SPOTS" = some (.ref a) ∧ Ph.TupK (L2.KOf KX) a [5, 3, 1] := by
      try dsimp only [L2.KOf]
      refine' Ph.tup_mk KX G ?a ?l ?v
      (case a => k_is); (case l => k_is)
      (case v => exact ⟨by decide, by repeat (first | exact .nil | refine .cons ⟨_, rfl⟩ ?_)⟩)
    obtain ⟨k_D_SPOTS, gr_D_SPOTS, sq_D_SPOTS⟩ : ∃ a, mg "D_SPOTS" = some (.ref a) ∧ Ph.TupK (L2.KOf KX) a [13, 11, 9] := by
      try dsimp only [L2.KOf]
      refine' Ph.tup_mk KX G ?a ?l ?v
      (case a => k_is); (case l => k_is)
      (case v => exact ⟨by decide, by repeat (first | exact .nil | refine .cons ⟨_, rfl⟩ ?_)⟩)
    have gi_PARTS : ∃ t, mg "PARTS" = some (.int (131072) t) := by
      try dsimp only [L2.KOf]
      refine' Ph.int_mk KX G ?a
      (case a => k_is)
    have gi_HALF_ZONE : ∃ t, mg "HALF_ZONE" = some (.int (65536) t) := by
      try dsimp only [L2.KOf]
      refine' Ph.int_mk KX G ?a
      (case a => k_is)
    have gi_CIRCLE_TOLD : ∃ t, mg "CIRCLE_TOLD" = some (.int (3600000000) t) := by
      try dsimp only [L2.KOf]
      refine' Ph.int_mk KX G ?a
      (case a => k_is)
    have gi_CIRCLE_AT_EDGES : ∃ t, mg "CIRCLE_AT_EDGES" = some (.int (36000000000) t) := by
      try dsimp only [L2.KOf]
      refine' Ph.int_mk KX G ?a
      (case a => k_is)
    have gi_MOST_ZONES : ∃ t, mg "MOST_ZONES" = some (.int (59) t) := by
      try dsimp only [L2.KOf]
      refine' Ph.int_mk KX G ?a
      (case a => k_is)
    obtain ⟨k_EDGES, gr_EDGES, sq_EDGES⟩ : ∃ a, mg "EDGES" = some (.ref a) ∧ Ph.TupK (L2.KOf KX) a [1047047130, 1482817437, 1818626357, 2102939493, 2354504487, 2582924707, 2793898710, 2991135686, 3177209708, 3353993436, 3522899598, 3685025108, 3841241892, 3992256684, 4138651832, 4280914012, 4419454951, 4554626723, 4686733252, 4816039128, 4942776439, 5067150166, 5189342469, 5309516153, 5427817472, 5544378444, 5659318756, 5772747354, 5884763776, 5995459277, 6104917774, 6213216659, 6320427479, 6426616523, 6531845310, 6636171008, 6739646774, 6842322022, 6944242631, 7045451075, 7145986473, 7245884545, 7345177442, 7443893416, 7542056257, 7639684391, 7736789461, 7833374083, 7929428225, 8024923213, 8119801349, 8213956981, 8307199445, 8399173563, 8489166191, 8575541621, 8653536998, 8700000000] := by
      try dsimp only [L2.KOf]
      refine' Ph.tup_mk KX G ?a ?l ?v
      (case a => k_is); (case l => k_is)
      (case v => exact ⟨by decide, by repeat (first | exact .nil | refine .cons ⟨_, rfl⟩ ?_)⟩)
    have gi_EVEN_ZONES : ∃ t, mg "EVEN_ZONES" = some (.int (60) t) := by
      try dsimp only [L2.KOf]
      refine' Ph.int_mk KX G ?a
      (case a => k_is)
    have gi_ODD_ZONES : ∃ t, mg "ODD_ZONES" = some (.int (59) t) := by
      try dsimp only [L2.KOf]
      refine' Ph.int_mk KX G ?a
      (case a => k_is)
    have gi_EXTENDED_LENGTH : ∃ t, mg "EXTENDED_LENGTH" = some (.int (56) t) := by
      try dsimp only [L2.KOf]
      refine' Ph.int_mk KX G ?a
      (case a => k_is)
    have gi_NAME_LENGTH : ∃ t, mg "NAME_LENGTH" = some (.int (8) t) := by
      try dsimp only [L2.KOf]
      refine' Ph.int_mk KX G ?a
      (case a => k_is)
    obtain ⟨k_NAME_KINDS, gr_NAME_KINDS, sq_NAME_KINDS⟩ : ∃ a, mg "NAME_KINDS" = some (.ref a) ∧ Ph.TupK (L2.KOf KX) a [1, 2, 3, 4] := by
      try dsimp only [L2.KOf]
      refine' Ph.tup_mk KX G ?a ?l ?v
      (case a => k_is); (case l => k_is)
      (case v => exact ⟨by decide, by repeat (first | exact .nil | refine .cons ⟨_, rfl⟩ ?_)⟩)
    obtain ⟨k_HEIGHT_KINDS, gr_HEIGHT_KINDS, sq_HEIGHT_KINDS⟩ : ∃ a, mg "HEIGHT_KINDS" = some (.ref a) ∧ Ph.TupK (L2.KOf KX) a [9, 10, 11, 12, 13, 14, 15, 16, 17, 18] := by
      try dsimp only [L2.KOf]
      refine' Ph.tup_mk KX G ?a ?l ?v
      (case a => k_is); (case l => k_is)
      (case v => exact ⟨by decide, by repeat (first | exact .nil | refine .cons ⟨_, rfl⟩ ?_)⟩)
    obtain ⟨k_HALF_KINDS, gr_HALF_KINDS, sq_HALF_KINDS⟩ : ∃ a, mg "HALF_KINDS" = some (.ref a) ∧ Ph.TupK (L2.KOf KX) a [9, 10, 11, 12, 13, 14, 15, 16, 17, 18, 20, 21, 22] := by
      try dsimp only [L2.KOf]
      refine' Ph.tup_mk KX G ?a ?l ?v
      (case a => k_is); (case l => k_is)
      (case v => exact ⟨by decide, by repeat (first | exact .nil | refine .cons ⟨_, rfl⟩ ?_)⟩)
    have gi_SPEED_KIND : ∃ t, mg "SPEED_KIND" = some (.int (19) t) := by
      try dsimp only [L2.KOf]
      refine' Ph.int_mk KX G ?a
      (case a => k_is)
    obtain ⟨k_SPEED_STEPS, gr_SPEED_STEPS, dk_SPEED_STEPS⟩ : ∃ a, mg "SPEED_STEPS" = some (.ref a) ∧ Ph.DctK (L2.KOf KX) a [(1, 1), (2, 4)] := by
      try dsimp only [L2.KOf]
      refine' Ph.dct_mk KX G ?a ?l ?v
      (case a => k_is); (case l => k_is)
      (case v => exact ⟨by decide, by repeat (first | exact .nil | refine .cons ⟨by rfl, ⟨_, rfl⟩, _, rfl⟩ ?_), by decide⟩)
    have gi_CLIMB_STEP : ∃ t, mg "CLIMB_STEP" = some (.int (64) t) := by
      try dsimp only [L2.KOf]
      refine' Ph.int_mk KX G ?a
      (case a => k_is)
    have gi_OLDEST_HALF : ∃ t, mg "OLDEST_HALF" = some (.int (10000) t) := by
      try dsimp only [L2.KOf]
      refine' Ph.int_mk KX G ?a
      (case a => k_is)
    have gi_OLDEST_PLACE : ∃ t, mg "OLDEST_PLACE" = some (.int (60000) t) := by
      try dsimp only [L2.KOf]
      refine' Ph.int_mk KX G ?a
      (case a => k_is)
    have gi_UNKNOWN : ∃ t, mg "UNKNOWN" = some (.int (-2147483648) t) := by
      try dsimp only [L2.KOf]
      refine' Ph.int_mk KX G ?a
      (case a => k_is)
    have gi_NEW : ∃ t, mg "NEW" = some (.int (0) t) := by
      try dsimp only [L2.KOf]
      refine' Ph.int_mk KX G ?a
      (case a => k_is)
    have gi_MESSAGE : ∃ t, mg "MESSAGE" = some (.int (1) t) := by
      try dsimp only [L2.KOf]
      refine' Ph.int_mk KX G ?a
      (case a => k_is)
    have gi_COUNT : ∃ t, mg "COUNT" = some (.int (2) t) := by
      try dsimp only [L2.KOf]
      refine' Ph.int_mk KX G ?a
      (case a => k_is)
    have gi_FIND : ∃ t, mg "FIND" = some (.int (3) t) := by
      try dsimp only [L2.KOf]
      refine' Ph.int_mk KX G ?a
      (case a => k_is)
    have gi_AT : ∃ t, mg "AT" = some (.int (4) t) := by
      try dsimp only [L2.KOf]
      refine' Ph.int_mk KX G ?a
      (case a => k_is)
    have gi_NAME : ∃ t, mg "NAME" = some (.int (5) t) := by
      try dsimp only [L2.KOf]
      refine' Ph.int_mk KX G ?a
      (case a => k_is)
    obtain ⟨k_CALLS_WITH_ONE_NUMBER, gr_CALLS_WITH_ONE_NUMBER, sq_CALLS_WITH_ONE_NUMBER⟩ : ∃ a, mg "CALLS_WITH_ONE_NUMBER" = some (.ref a) ∧ Ph.TupK (L2.KOf KX) a [3, 4, 5] := by
      try dsimp only [L2.KOf]
      refine' Ph.tup_mk KX G ?a ?l ?v
      (case a => k_is); (case l => k_is)
      (case v => exact ⟨by decide, by repeat (first | exact .nil | refine .cons ⟨_, rfl⟩ ?_)⟩)
    have gi_TOLD : ∃ t, mg "TOLD" = some (.int (0) t) := by
      try dsimp only [L2.KOf]
      refine' Ph.int_mk KX G ?a
      (case a => k_is)
    have gi_NOBODY : ∃ t, mg "NOBODY" = some (.int (-1) t) := by
      try dsimp only [L2.KOf]
      refine' Ph.int_mk KX G ?a
      (case a => k_is)
    have gi_NO_NAME : ∃ t, mg "NO_NAME" = some (.int (-2) t) := by
      try dsimp only [L2.KOf]
      refine' Ph.int_mk KX G ?a
      (case a => k_is)
    have gi_TAKEN : ∃ t, mg "TAKEN" = some (.int (0) t) := by
      try dsimp only [L2.KOf]
      refine' Ph.int_mk KX G ?a
      (case a => k_is)
    have gi_TAKEN_WITH_A_BIT_TURNED : ∃ t, mg "TAKEN_WITH_A_BIT_TURNED" = some (.int (1) t) := by
      try dsimp only [L2.KOf]
      refine' Ph.int_mk KX G ?a
      (case a => k_is)
    have gi_NOT_READ : ∃ t, mg "NOT_READ" = some (.int (-1) t) := by
      try dsimp only [L2.KOf]
      refine' Ph.int_mk KX G ?a
      (case a => k_is)
    have gi_NOT_RIGHT : ∃ t, mg "NOT_RIGHT" = some (.int (-2) t) := by
      try dsimp only [L2.KOf]
      refine' Ph.int_mk KX G ?a
      (case a => k_is)
    have gi_NOT_KNOWN : ∃ t, mg "NOT_KNOWN" = some (.int (-3) t) := by
      try dsimp only [L2.KOf]
      refine' Ph.int_mk KX G ?a
      (case a => k_is)
    have gi_WRONG_TIME : ∃ t, mg "WRONG_TIME" = some (.int (-4) t) := by
      try dsimp only [L2.KOf]
      refine' Ph.int_mk KX G ?a
      (case a => k_is)
    have gi_TIMES_END : ∃ t, mg "TIMES_END" = some (.int (2147483648) t) := by
      try dsimp only [L2.KOf]
      refine' Ph.int_mk KX G ?a
      (case a => k_is)
    have gi_LONGEST_SILENCE : ∃ t, mg "LONGEST_SILENCE" = some (.int (300000) t) := by
      try dsimp only [L2.KOf]
      refine' Ph.int_mk KX G ?a
      (case a => k_is)
    have gi_MOST_AIRCRAFT : ∃ t, mg "MOST_AIRCRAFT" = some (.int (256) t) := by
      try dsimp only [L2.KOf]
      refine' Ph.int_mk KX G ?a
      (case a => k_is)
    obtain ⟨k_LENGTHS, gr_LENGTHS, sq_LENGTHS⟩ : ∃ a, mg "LENGTHS" = some (.ref a) ∧ Ph.TupK (L2.KOf KX) a [7, 14] := by
      try dsimp only [L2.KOf]
      refine' Ph.tup_mk KX G ?a ?l ?v
      (case a => k_is); (case l => k_is)
      (case v => exact ⟨by decide, by repeat (first | exact .nil | refine .cons ⟨_, rfl⟩ ?_)⟩)
    obtain ⟨k_FORMATS, gr_FORMATS, dk_FORMATS⟩ : ∃ a, mg "FORMATS" = some (.ref a) ∧ Ph.DctK (L2.KOf KX) a [(4, 7), (5, 7), (11, 7), (17, 14), (18, 14), (20, 14), (21, 14)] := by
      try dsimp only [L2.KOf]
      refine' Ph.dct_mk KX G ?a ?l ?v
      (case a => k_is); (case l => k_is)
      (case v => exact ⟨by decide, by repeat (first | exact .nil | refine .cons ⟨by rfl, ⟨_, rfl⟩, _, rfl⟩ ?_), by decide⟩)
    obtain ⟨k_HEIGHT_FORMATS, gr_HEIGHT_FORMATS, sq_HEIGHT_FORMATS⟩ : ∃ a, mg "HEIGHT_FORMATS" = some (.ref a) ∧ Ph.TupK (L2.KOf KX) a [4, 20] := by
      try dsimp only [L2.KOf]
      refine' Ph.tup_mk KX G ?a ?l ?v
      (case a => k_is); (case l => k_is)
      (case v => exact ⟨by decide, by repeat (first | exact .nil | refine .cons ⟨_, rfl⟩ ?_)⟩)
    obtain ⟨k_IDENTITY_FORMATS, gr_IDENTITY_FORMATS, sq_IDENTITY_FORMATS⟩ : ∃ a, mg "IDENTITY_FORMATS" = some (.ref a) ∧ Ph.TupK (L2.KOf KX) a [5, 21] := by
      try dsimp only [L2.KOf]
      refine' Ph.tup_mk KX G ?a ?l ?v
      (case a => k_is); (case l => k_is)
      (case v => exact ⟨by decide, by repeat (first | exact .nil | refine .cons ⟨_, rfl⟩ ?_)⟩)
    have gi_PRESENCE_FORMAT : ∃ t, mg "PRESENCE_FORMAT" = some (.int (11) t) := by
      try dsimp only [L2.KOf]
      refine' Ph.int_mk KX G ?a
      (case a => k_is)
    have gi_OTHERS_EXTENDED_FORMAT : ∃ t, mg "OTHERS_EXTENDED_FORMAT" = some (.int (18) t) := by
      try dsimp only [L2.KOf]
      refine' Ph.int_mk KX G ?a
      (case a => k_is)
    have nb_range : mg "range" = none := by
      try dsimp only [L2.KOf]
      refine' PySem.W.mg_none_of KX G ?a
      (case a => k_is)
    have nb_max : mg "max" = none := by
      try dsimp only [L2.KOf]
      refine' PySem.W.mg_none_of KX G ?a
      (case a => k_is)
    have nb_abs : mg "abs" = none := by
      try dsimp only [L2.KOf]
      refine' PySem.W.mg_none_of KX G ?a
      (case a => k_is)
    have nb_enumerate : mg "enumerate" = none := by
      try dsimp only [L2.KOf]
      refine' PySem.W.mg_none_of KX G ?a
      (case a => k_is)
    have nb_len : mg "len" = none := by
      try dsimp only [L2.KOf]
      refine' PySem.W.mg_none_of KX G ?a
      (case a => k_is)
    have nb_ord : mg "ord" = none := by
      try dsimp only [L2.KOf]
      refine' PySem.W.mg_none_of KX G ?a
      (case a => k_is)
    have T : Ph.Txt (L2.KOf KX) mg { Angle := C_Angle, f_Angle___init__ := f_Angle___init__, f_Angle_circle := f_Angle_circle, f_Angle_told := f_Angle_told, f_Angle_reaches := f_Angle_reaches, f_Angle_moved := f_Angle_moved, d_Angle___init__ := d_Angle___init__, d_Angle_circle := d_Angle_circle, d_Angle_told := d_Angle_told, d_Angle_reaches := d_Angle_reaches, d_Angle_moved := d_Angle_moved, Half := C_Half, f_Half___init__ := f_Half___init__, d_Half___init__ := d_Half___init__, Place := C_Place, f_Place___init__ := f_Place___init__, d_Place___init__ := d_Place___init__, Aircraft := C_Aircraft, f_Aircraft___init__ := f_Aircraft___init__, f_Aircraft_numbers_at := f_Aircraft_numbers_at, f_Aircraft_take_height := f_Aircraft_take_height, f_Aircraft_take_extended := f_Aircraft_take_extended, f_Aircraft_take_half := f_Aircraft_take_half, f_Aircraft_place_by_both := f_Aircraft_place_by_both, f_Aircraft_place_by_known := f_Aircraft_place_by_known, d_Aircraft___init__ := d_Aircraft___init__, d_Aircraft_numbers_at := d_Aircraft_numbers_at, d_Aircraft_take_height := d_Aircraft_take_height, d_Aircraft_take_extended := d_Aircraft_take_extended, d_Aircraft_take_half := d_Aircraft_take_half, d_Aircraft_place_by_both := d_Aircraft_place_by_both, d_Aircraft_place_by_known := d_Aircraft_place_by_known, Receiver := C_Receiver, f_Receiver___init__ := f_Receiver___init__, f_Receiver_begin := f_Receiver_begin, f_Receiver_take_message := f_Receiver_take_message, f_Receiver_set_time := f_Receiver_set_time, f_Receiver_take_reply := f_Receiver_take_reply, f_Receiver_take_squitter := f_Receiver_take_squitter, f_Receiver_spot_of := f_Receiver_spot_of, f_Receiver_known_or_new := f_Receiver_known_or_new, f_Receiver_hear := f_Receiver_hear, f_Receiver_how_many := f_Receiver_how_many, f_Receiver_tell_numbers := f_Receiver_tell_numbers, f_Receiver_tell_name := f_Receiver_tell_name, d_Receiver___init__ := d_Receiver___init__, d_Receiver_begin := d_Receiver_begin, d_Receiver_take_message := d_Receiver_take_message, d_Receiver_set_time := d_Receiver_set_time, d_Receiver_take_reply := d_Receiver_take_reply, d_Receiver_take_squitter := d_Receiver_take_squitter, d_Receiver_spot_of := d_Receiver_spot_of, d_Receiver_known_or_new := d_Receiver_known_or_new, d_Receiver_hear := d_Receiver_hear, d_Receiver_how_many := d_Receiver_how_many, d_Receiver_tell_numbers := d_Receiver_tell_numbers, d_Receiver_tell_name := d_Receiver_tell_name, f_number_of_bytes := f_number_of_bytes, d_number_of_bytes := d_number_of_bytes, f_bits_between := f_bits_between, d_bits_between := d_bits_between, f_rest_of := f_rest_of, d_rest_of := d_rest_of, f_with_one_bit_turned := f_with_one_bit_turned, d_with_one_bit_turned := d_with_one_bit_turned, f_picked := f_picked, d_picked := d_picked, f_turned_back := f_turned_back, d_turned_back := d_turned_back, f_height_of := f_height_of, d_height_of := d_height_of, f_height_by_hundreds := f_height_by_hundreds, d_height_by_hundreds := d_height_by_hundreds, f_identity_of := f_identity_of, d_identity_of := d_identity_of, f_beyond_a_pole := f_beyond_a_pole, d_beyond_a_pole := d_beyond_a_pole, f_zones_of_longitude := f_zones_of_longitude, d_zones_of_longitude := d_zones_of_longitude, f_nearest_angle := f_nearest_angle, d_nearest_angle := d_nearest_angle, f_place_out_of_halves := f_place_out_of_halves, d_place_out_of_halves := d_place_out_of_halves, f_place_near := f_place_near, d_place_near := d_place_near, f_nearest_whole_zone := f_nearest_whole_zone, d_nearest_whole_zone := d_nearest_whole_zone, f_latitude_in_zone := f_latitude_in_zone, d_latitude_in_zone := d_latitude_in_zone, f_longitude_in_zone := f_longitude_in_zone, d_longitude_in_zone := d_longitude_in_zone, f_zones_for_half := f_zones_for_half, d_zones_for_half := d_zones_for_half, f_within_half_a_circle := f_within_half_a_circle, d_within_half_a_circle := d_within_half_a_circle, f_bits_in := f_bits_in, d_bits_in := d_bits_in, f_kind_of := f_kind_of, d_kind_of := d_kind_of, f_name_in := f_name_in, d_name_in := d_name_in, f_name_byte := f_name_byte, d_name_byte := d_name_byte, f_height_in := f_height_in, d_height_in := d_height_in, f_half_in := f_half_in, d_half_in := d_half_in, f_speed_step_in := f_speed_step_in, d_speed_step_in := d_speed_step_in, f_speeds_in := f_speeds_in, d_speeds_in := d_speeds_in, f_climb_in := f_climb_in, d_climb_in := d_climb_in, f_signed := f_signed, d_signed := d_signed, f_size_of_call := f_size_of_call, d_size_of_call := d_size_of_call, f_answer_of := f_answer_of, d_answer_of := d_answer_of, f_answers := f_answers, d_answers := d_answers, k_M_SPOT := k_M_SPOT, k_Q_SPOT := k_Q_SPOT, k_PLAIN_SPOTS := k_PLAIN_SPOTS, k_FIVE_HUNDREDS_SPOTS := k_FIVE_HUNDREDS_SPOTS, k_HUNDREDS_SPOTS := k_HUNDREDS_SPOTS, k_A_SPOTS := k_A_SPOTS, k_B_SPOTS := k_B_SPOTS, k_C_SPOTS := k_C_SPOTS, k_D_SPOTS := k_D_SPOTS, k_EDGES := k_EDGES, k_NAME_KINDS := k_NAME_KINDS, k_HEIGHT_KINDS := k_HEIGHT_KINDS, k_HALF_KINDS := k_HALF_KINDS, k_SPEED_STEPS := k_SPEED_STEPS, k_CALLS_WITH_ONE_NUMBER := k_CALLS_WITH_ONE_NUMBER, k_LENGTHS := k_LENGTHS, k_FORMATS := k_FORMATS, k_HEIGHT_FORMATS := k_HEIGHT_FORMATS, k_IDENTITY_FORMATS := k_IDENTITY_FORMATS } := { cl_Angle := cl_Angle, mk_Angle := mk_Angle, mg_Angle := mg_Angle, na_Angle_parts := na_Angle_parts, na_Angle_zones := na_Angle_zones, fn_Angle___init__ := fn_Angle___init__, fn_Angle_circle := fn_Angle_circle, fn_Angle_told := fn_Angle_told, fn_Angle_reaches := fn_Angle_reaches, fn_Angle_moved := fn_Angle_moved, me_Angle_circle := me_Angle_circle, me_Angle_told := me_Angle_told, me_Angle_reaches := me_Angle_reaches, me_Angle_moved := me_Angle_moved, cl_Half := cl_Half, mk_Half := mk_Half, mg_Half := mg_Half, na_Half_odd := na_Half_odd, na_Half_y := na_Half_y, na_Half_x := na_Half_x, na_Half_heard := na_Half_heard, fn_Half___init__ := fn_Half___init__, cl_Place := cl_Place, mk_Place := mk_Place, mg_Place := mg_Place, na_Place_latitude := na_Place_latitude, na_Place_longitude := na_Place_longitude, fn_Place___init__ := fn_Place___init__, cl_Aircraft := cl_Aircraft, mk_Aircraft := mk_Aircraft, mg_Aircraft := mg_Aircraft, na_Aircraft_address := na_Aircraft_address, na_Aircraft_heard := na_Aircraft_heard, na_Aircraft_name := na_Aircraft_name, na_Aircraft_height := na_Aircraft_height, na_Aircraft_identity := na_Aircraft_identity, na_Aircraft_east := na_Aircraft_east, na_Aircraft_north := na_Aircraft_north, na_Aircraft_climb := na_Aircraft_climb, na_Aircraft_place := na_Aircraft_place, na_Aircraft_place_heard := na_Aircraft_place_heard, na_Aircraft_halves := na_Aircraft_halves, fn_Aircraft___init__ := fn_Aircraft___init__, fn_Aircraft_numbers_at := fn_Aircraft_numbers_at, fn_Aircraft_take_height := fn_Aircraft_take_height, fn_Aircraft_take_extended := fn_Aircraft_take_extended, fn_Aircraft_take_half := fn_Aircraft_take_half, fn_Aircraft_place_by_both := fn_Aircraft_place_by_both, fn_Aircraft_place_by_known := fn_Aircraft_place_by_known, me_Aircraft_numbers_at := me_Aircraft_numbers_at, me_Aircraft_take_height := me_Aircraft_take_height, me_Aircraft_take_extended := me_Aircraft_take_extended, me_Aircraft_take_half := me_Aircraft_take_half, me_Aircraft_place_by_both := me_Aircraft_place_by_both, me_Aircraft_place_by_known := me_Aircraft_place_by_known, cl_Receiver := cl_Receiver, mk_Receiver := mk_Receiver, mg_Receiver := mg_Receiver, na_Receiver_now := na_Receiver_now, na_Receiver_known := na_Receiver_known, fn_Receiver___init__ := fn_Receiver___init__, fn_Receiver_begin := fn_Receiver_begin, fn_Receiver_take_message := fn_Receiver_take_message, fn_Receiver_set_time := fn_Receiver_set_time, fn_Receiver_take_reply := fn_Receiver_take_reply, fn_Receiver_take_squitter := fn_Receiver_take_squitter, fn_Receiver_spot_of := fn_Receiver_spot_of, fn_Receiver_known_or_new := fn_Receiver_known_or_new, fn_Receiver_hear := fn_Receiver_hear, fn_Receiver_how_many := fn_Receiver_how_many, fn_Receiver_tell_numbers := fn_Receiver_tell_numbers, fn_Receiver_tell_name := fn_Receiver_tell_name, me_Receiver_begin := me_Receiver_begin, me_Receiver_take_message := me_Receiver_take_message, me_Receiver_set_time := me_Receiver_set_time, me_Receiver_take_reply := me_Receiver_take_reply, me_Receiver_take_squitter := me_Receiver_take_squitter, me_Receiver_spot_of := me_Receiver_spot_of, me_Receiver_known_or_new := me_Receiver_known_or_new, me_Receiver_hear := me_Receiver_hear, me_Receiver_how_many := me_Receiver_how_many, me_Receiver_tell_numbers := me_Receiver_tell_numbers, me_Receiver_tell_name := me_Receiver_tell_name, fn_number_of_bytes := fn_number_of_bytes, mg_number_of_bytes := mg_number_of_bytes, fn_bits_between := fn_bits_between, mg_bits_between := mg_bits_between, fn_rest_of := fn_rest_of, mg_rest_of := mg_rest_of, fn_with_one_bit_turned := fn_with_one_bit_turned, mg_with_one_bit_turned := mg_with_one_bit_turned, fn_picked := fn_picked, mg_picked := mg_picked, fn_turned_back := fn_turned_back, mg_turned_back := mg_turned_back, fn_height_of := fn_height_of, mg_height_of := mg_height_of, fn_height_by_hundreds := fn_height_by_hundreds, mg_height_by_hundreds := mg_height_by_hundreds, fn_identity_of := fn_identity_of, mg_identity_of := mg_identity_of, fn_beyond_a_pole := fn_beyond_a_pole, mg_beyond_a_pole := mg_beyond_a_pole, fn_zones_of_longitude := fn_zones_of_longitude, mg_zones_of_longitude := mg_zones_of_longitude, fn_nearest_angle := fn_nearest_angle, mg_nearest_angle := mg_nearest_angle, fn_place_out_of_halves := fn_place_out_of_halves, mg_place_out_of_halves := mg_place_out_of_halves, fn_place_near := fn_place_near, mg_place_near := mg_place_near, fn_nearest_whole_zone := fn_nearest_whole_zone, mg_nearest_whole_zone := mg_nearest_whole_zone, fn_latitude_in_zone := fn_latitude_in_zone, mg_latitude_in_zone := mg_latitude_in_zone, fn_longitude_in_zone := fn_longitude_in_zone, mg_longitude_in_zone := mg_longitude_in_zone, fn_zones_for_half := fn_zones_for_half, mg_zones_for_half := mg_zones_for_half, fn_within_half_a_circle := fn_within_half_a_circle, mg_within_half_a_circle := mg_within_half_a_circle, fn_bits_in := fn_bits_in, mg_bits_in := mg_bits_in, fn_kind_of := fn_kind_of, mg_kind_of := mg_kind_of, fn_name_in := fn_name_in, mg_name_in := mg_name_in, fn_name_byte := fn_name_byte, mg_name_byte := mg_name_byte, fn_height_in := fn_height_in, mg_height_in := mg_height_in, fn_half_in := fn_half_in, mg_half_in := mg_half_in, fn_speed_step_in := fn_speed_step_in, mg_speed_step_in := mg_speed_step_in, fn_speeds_in := fn_speeds_in, mg_speeds_in := mg_speeds_in, fn_climb_in := fn_climb_in, mg_climb_in := mg_climb_in, fn_signed := fn_signed, mg_signed := mg_signed, fn_size_of_call := fn_size_of_call, mg_size_of_call := mg_size_of_call, fn_answer_of := fn_answer_of, mg_answer_of := mg_answer_of, fn_answers := fn_answers, mg_answers := mg_answers, gi_DIVISOR := gi_DIVISOR, gi_DIVISOR_TOP := gi_DIVISOR_TOP, gi_DIVISOR_POWER := gi_DIVISOR_POWER, gi_FORMAT_BITS := gi_FORMAT_BITS, gi_CODE_LENGTH := gi_CODE_LENGTH, gr_M_SPOT := gr_M_SPOT, sq_M_SPOT := sq_M_SPOT, gr_Q_SPOT := gr_Q_SPOT, sq_Q_SPOT := sq_Q_SPOT, gr_PLAIN_SPOTS := gr_PLAIN_SPOTS, sq_PLAIN_SPOTS := sq_PLAIN_SPOTS, gr_FIVE_HUNDREDS_SPOTS := gr_FIVE_HUNDREDS_SPOTS, sq_FIVE_HUNDREDS_SPOTS := sq_FIVE_HUNDREDS_SPOTS, gr_HUNDREDS_SPOTS := gr_HUNDREDS_SPOTS, sq_HUNDREDS_SPOTS := sq_HUNDREDS_SPOTS, gr_A_SPOTS := gr_A_SPOTS, sq_A_SPOTS := sq_A_SPOTS, gr_B_SPOTS := gr_B_SPOTS, sq_B_SPOTS := sq_B_SPOTS, gr_C_SPOTS := gr_C_SPOTS, sq_C_SPOTS := sq_C_SPOTS, gr_D_SPOTS := gr_D_SPOTS, sq_D_SPOTS := sq_D_SPOTS, gi_PARTS := gi_PARTS, gi_HALF_ZONE := gi_HALF_ZONE, gi_CIRCLE_TOLD := gi_CIRCLE_TOLD, gi_CIRCLE_AT_EDGES := gi_CIRCLE_AT_EDGES, gi_MOST_ZONES := gi_MOST_ZONES, gr_EDGES := gr_EDGES, sq_EDGES := sq_EDGES, gi_EVEN_ZONES := gi_EVEN_ZONES, gi_ODD_ZONES := gi_ODD_ZONES, gi_EXTENDED_LENGTH := gi_EXTENDED_LENGTH, gi_NAME_LENGTH := gi_NAME_LENGTH, gr_NAME_KINDS := gr_NAME_KINDS, sq_NAME_KINDS := sq_NAME_KINDS, gr_HEIGHT_KINDS := gr_HEIGHT_KINDS, sq_HEIGHT_KINDS := sq_HEIGHT_KINDS, gr_HALF_KINDS := gr_HALF_KINDS, sq_HALF_KINDS := sq_HALF_KINDS, gi_SPEED_KIND := gi_SPEED_KIND, gr_SPEED_STEPS := gr_SPEED_STEPS, dk_SPEED_STEPS := dk_SPEED_STEPS, gi_CLIMB_STEP := gi_CLIMB_STEP, gi_OLDEST_HALF := gi_OLDEST_HALF, gi_OLDEST_PLACE := gi_OLDEST_PLACE, gi_UNKNOWN := gi_UNKNOWN, gi_NEW := gi_NEW, gi_MESSAGE := gi_MESSAGE, gi_COUNT := gi_COUNT, gi_FIND := gi_FIND, gi_AT := gi_AT, gi_NAME := gi_NAME, gr_CALLS_WITH_ONE_NUMBER := gr_CALLS_WITH_ONE_NUMBER, sq_CALLS_WITH_ONE_NUMBER := sq_CALLS_WITH_ONE_NUMBER, gi_TOLD := gi_TOLD, gi_NOBODY := gi_NOBODY, gi_NO_NAME := gi_NO_NAME, gi_TAKEN := gi_TAKEN, gi_TAKEN_WITH_A_BIT_TURNED := gi_TAKEN_WITH_A_BIT_TURNED, gi_NOT_READ := gi_NOT_READ, gi_NOT_RIGHT := gi_NOT_RIGHT, gi_NOT_KNOWN := gi_NOT_KNOWN, gi_WRONG_TIME := gi_WRONG_TIME, gi_TIMES_END := gi_TIMES_END, gi_LONGEST_SILENCE := gi_LONGEST_SILENCE, gi_MOST_AIRCRAFT := gi_MOST_AIRCRAFT, gr_LENGTHS := gr_LENGTHS, sq_LENGTHS := sq_LENGTHS, gr_FORMATS := gr_FORMATS, dk_FORMATS := dk_FORMATS, gr_HEIGHT_FORMATS := gr_HEIGHT_FORMATS, sq_HEIGHT_FORMATS := sq_HEIGHT_FORMATS, gr_IDENTITY_FORMATS := gr_IDENTITY_FORMATS, sq_IDENTITY_FORMATS := sq_IDENTITY_FORMATS, gi_PRESENCE_FORMAT := gi_PRESENCE_FORMAT, gi_OTHERS_EXTENDED_FORMAT := gi_OTHERS_EXTENDED_FORMAT, nb_range := nb_range, nb_max := nb_max, nb_abs := nb_abs, nb_enumerate := nb_enumerate, nb_len := nb_len, nb_ord := nb_ord }

    have e0 := hmg.symm.trans mg_answers
    cases e0
    refine' ⟨d_answers, ?b, fun base kb nb => Ph.ok_answers T⟩
    intro s u
    obtain ⟨oc, od, kV, doc, pm, an, cdv, ct, osl, rfl, lk, hcd⟩ := fn_answers.ex
    exact .of_eq rfl
#print axioms PySem.Challenge.cw_planesheard_s01_answers_holds
