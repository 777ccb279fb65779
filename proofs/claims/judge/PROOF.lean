import PyProof.Rows.All
import Wide.All
import OpenK.AllK
import Wide.FinOn
import PyProof.EqAt
import PyProof.EqKinds
import PyProof.TupleCall
import KE.BitLaws
import KE.OsGo
import Open.SpecLaws
import PySem.Challenge.RW_lampspeech_s01_judge
set_option Elab.async false
set_option linter.all false
set_option maxRecDepth 100000
/-! THE HAND LAYER, for ints, bools, texts, own classes, lists, tuples, dicts, comprehensions, walks over dicts, enumerate, zip, reversed, texts, calls, loops. Paste it whole ahead of your own text; what your proof does not reach may be deleted. -/
namespace L2
open PySem PySem.Spec PyProof.Rows

/-- a key: an int or a str -/
abbrev Key := Sum Int Str
def keyIs : Key → Value → Bool
  | .inl k, v => Value.isInt k v
  | .inr x, v => Value.isStrOf x v
def keyH (w : World) : Key → Int
  | .inl k => hashInt k
  | .inr x => hashStr w x
theorem keyIs_shape : ∀ {k : Key} {v : Value}, keyIs k v = true → (∃ i t, k = Sum.inl i ∧ v = Value.int i t) ∨ (∃ x t, k = Sum.inr x ∧ v = Value.str x t)
  | .inl i, v, h => by
    obtain ⟨t, e⟩ := Value.isInt_shape (k := i) (v := v) h
    exact .inl ⟨i, t, rfl, e⟩
  | .inr x, v, h => by
    obtain ⟨t, e⟩ := Value.isStrOf_shape (x := x) (v := v) h
    exact .inr ⟨x, t, rfl, e⟩
theorem key_ll (a b : Int) : decide ((Sum.inl a : Key) = Sum.inl b) = (a == b) := by
  by_cases e : a = b
  · subst e; simp
  · have h : ¬ (Sum.inl a : Key) = Sum.inl b := fun q => e (Sum.inl.inj q)
    rw [decide_eq_false h]
    exact (beq_eq_false_iff_ne.mpr e).symm
theorem key_rr (a b : Str) : decide ((Sum.inr a : Key) = Sum.inr b) = decide (a = b) := by
  by_cases e : a = b
  · subst e; simp
  · have h : ¬ (Sum.inr a : Key) = Sum.inr b := fun q => e (Sum.inr.inj q)
    rw [decide_eq_false h, decide_eq_false e]
theorem key_lr (a : Int) (b : Str) : decide ((Sum.inl a : Key) = Sum.inr b) = false := decide_eq_false (fun q => nomatch q)
theorem key_rl (a : Str) (b : Int) : decide ((Sum.inr a : Key) = Sum.inl b) = false := decide_eq_false (fun q => nomatch q)

def mixKind (prog : Program) (w : World) : PySem.KeyKind prog w Key where
  is := keyIs
  hash := keyH w
  inj := fun v a b ha hb => by
    rcases keyIs_shape ha with ⟨i, t, rfl, rfl⟩ | ⟨x, t, rfl, rfl⟩
    · rcases keyIs_shape hb with ⟨j, u, rfl, e⟩ | ⟨y, u, rfl, e⟩
      · injection e with e1 _; rw [e1]
      · exact nomatch e
    · rcases keyIs_shape hb with ⟨j, u, rfl, e⟩ | ⟨y, u, rfl, e⟩
      · exact nomatch e
      · injection e with e1 _; rw [e1]
  byValue := fun k v h => by
    rcases keyIs_shape h with ⟨i, t, rfl, rfl⟩ | ⟨x, t, rfl, rfl⟩ <;> rfl
  pyHash := fun hv h => by
    rcases keyIs_shape hv with ⟨i, t, rfl, rfl⟩ | ⟨x, t, rfl, rfl⟩
    · exact wpAny_pyHash_int h
    · exact wpAny_pyHash_str h
  eqBool := fun hu hv h => by
    rcases keyIs_shape hu with ⟨i, t, rfl, rfl⟩ | ⟨x, t, rfl, rfl⟩
    · rcases keyIs_shape hv with ⟨j, u, rfl, rfl⟩ | ⟨y, u, rfl, rfl⟩
      · rw [key_ll] at h; exact wpAny_eqBool_int h
      · rw [key_lr] at h; exact SeqAt.EqAt.int_str i t y u _ _ _ _ h
    · rcases keyIs_shape hv with ⟨j, u, rfl, rfl⟩ | ⟨y, u, rfl, rfl⟩
      · rw [key_rl] at h; exact SeqAt.EqAt.str_int x t j u _ _ _ _ h
      · rw [key_rr] at h; exact wpAny_eqBool_str h
  «strs» := fun k x t v h => by
    rcases keyIs_shape h with ⟨i, u, rfl, e⟩ | ⟨y, u, rfl, e⟩
    · exact nomatch e
    · injection e with e1 _
      subst e1
      cases v <;> rfl

end L2

namespace L2
open PySem PySem.Spec PyProof.Rows

/-- a value, without the heap -/
inductive V where
  | non | bl (b : Bool) | int (i : Int) | str (x : Str) | byt (b : Array UInt8) | flt (b : UInt64) | ref (a : Addr) | ty (n : String)
  deriving DecidableEq

def RelV : V → Value → Prop
  | .non, u => u = Value.none
  | .bl b, u => u = Value.bool b
  | .int i, u => ∃ t, u = Value.int i t
  | .str x, u => ∃ t, u = Value.str x t
  | .byt b, u => ∃ t, u = Value.bytes b t
  | .flt b, u => ∃ t, u = Value.float b t
  | .ref a, u => u = Value.ref a
  | .ty n, u => u = Value.type n

abbrev Vals : List V → List Value → Prop := Paired RelV
theorem Vals.length {xs : List V} {us : List Value} (r : Vals xs us) : xs.length = us.length := Paired.length r
theorem Vals.get : ∀ {xs : List V} {us : List Value} {i : Nat} {x : V}, Vals xs us → xs[i]? = some x → ∃ u, us[i]? = some u ∧ RelV x u
  | _, _, _, _, .nil, e => by simp at e
  | _, _, 0, _, .cons r _, e => by simp at e; subst e; exact ⟨_, rfl, r⟩
  | _, _, i + 1, x, .cons _ t, e => by
    obtain ⟨u, h1, h2⟩ := Vals.get (i := i) (x := x) t (by simpa using e)
    exact ⟨u, by simpa using h1, h2⟩
theorem Vals.set {x : V} {u : Value} (r : RelV x u) : ∀ {xs : List V} {us : List Value} (i : Nat), Vals xs us → Vals (xs.set i x) (us.set i u)
  | _, _, _, .nil => .nil
  | _, _, 0, .cons _ t => .cons r t
  | _, _, i + 1, .cons q t => .cons q (Vals.set r i t)
theorem Vals.append : ∀ {xs ys : List V} {us ws : List Value}, Vals xs us → Vals ys ws → Vals (xs ++ ys) (us ++ ws)
  | _, _, _, _, .nil, s => s
  | _, _, _, _, .cons r t, s => .cons r (Vals.append t s)
theorem Vals.take : ∀ {xs : List V} {us : List Value} (n : Nat), Vals xs us → Vals (xs.take n) (us.take n)
  | _, _, 0, _ => .nil
  | _, _, _ + 1, .nil => .nil
  | _, _, n + 1, .cons r t => .cons r (Vals.take n t)
theorem Vals.drop : ∀ {xs : List V} {us : List Value} (n : Nat), Vals xs us → Vals (xs.drop n) (us.drop n)
  | _, _, 0, r => r
  | _, _, _ + 1, .nil => .nil
  | _, _, n + 1, .cons _ t => Vals.drop n t

def RelO : Option V → Option Value → Prop
  | some v, some u => RelV v u
  | none, none => True
  | _, _ => False
def KV {κ : Type} : List (κ × V) → List (κ × Value) → Prop := Paired fun (p : κ × V) (q : κ × Value) => p.1 = q.1 ∧ RelV p.2 q.2

/-- a key of a dict (00_mix): an int or a text -/
def kV : Key → V
  | .inl i => .int i
  | .inr x => .str x

/-- what stands at a tracked address -/
inductive HO where
  /-- a list -/
  | lst (xs : List V)
  /-- a tuple (never changes) -/
  | tup (xs : List V)
  /-- a dict whose keys are ints and texts; one whose keys are tuples of ints and texts (the empty one is both) -/
  | dK (kvs : List (Key × V)) | dT (kvs : List (List Key × V))
  /-- a set of ints: its members, its size -/
  | set (S : Int → Bool) (n : Nat)
  /-- an instance of the class at C, its dict at dx, its attributes -/
  | ins (C dx : Addr) (fs : List (Str × V))
  /-- the dict of the instance at x -/
  | own (x : Addr)
  /-- the dict of an exception -/
  | xd (fs : List (Str × V))
  /-- a bound method, f of x -/
  | met (f x : Addr)
  /-- a range object lo, lo + 1, .. below hi -/
  | rng (lo hi : Int)
  /-- a thing that is known to the object (the script; a dict while a loop walks it): read, never written while it is so -/
  | frz (o : Obj) (u : HO)
  /-- a code object's table -/
  | tbl (ps : Array Value)
  /-- any other thing, by what is true of its one object (a def of one's own: SetO a S n := HO.ext fun h => ..) -/
  | ext (φ : Heap → Prop)

abbrev Hp := Addr → Option HO
def upd (H : Hp) (a : Addr) (o : HO) : Hp := fun b => if b = a then some o else H b
theorem upd_same {H : Hp} {a : Addr} {o : HO} : upd H a o a = some o := by unfold upd; rw [if_pos rfl]
theorem upd_ne {H : Hp} {a b : Addr} {o : HO} (h : b ≠ a) : upd H a o b = H b := by unfold upd; rw [if_neg h]
theorem ne_of_none {H : Hp} {a b : Addr} {o : HO} (h : H a = some o) (h' : H b = none) : a ≠ b := by
  intro e; subst e; rw [h] at h'; cases h'

section
variable (P : Program) (w : World)
def ObjOk (H : Hp) (h : Heap) (a : Addr) : HO → Prop
  | .lst xs => xs.length ≤ sizeLine ∧ ∃ (its : List Value) (n : Nat), Vals xs its ∧ h.get? a = some { cls := .type "list", data := .seq its.toArray n }
  | .tup xs => xs.length ≤ sizeLine ∧ ∃ its : List Value, Vals xs its ∧ IsTup h a its.toArray
  | .dK kvs => kvs.length ≤ sizeLine ∧ (a == sysModules) = false ∧ ∃ vs, KV kvs vs ∧ h.DictOf (mixKind P w) a vs
  | .dT kvs => kvs.length ≤ sizeLine ∧ (a == sysModules) = false ∧ ∃ xs : List (List Key × Addr × Value),
      Paired (fun (p : List Key × V) (q : List Key × Addr × Value) => p.1 = q.1 ∧ H q.2.1 = some (.tup (p.1.map kV)) ∧ RelV p.2 q.2.2) kvs xs ∧
      ∃ o es ep, h.get? a = some o ∧ o.ExactDict ∧ o.data = .dict es ep ∧ es.toList = xs.map (entryOfKey (tupleKind (mixKind P w))) ∧ (xs.map (·.1)).Nodup
  | .set S n => h.SetOf (intKind P w) a S n
  | .ins C dx fs => H dx = some (.own a) ∧ fs.length ≤ 1000 ∧ dx ≠ a ∧ h.get? a = some (PySem.W.instObj C dx) ∧
      ∃ mA, h.Ns1 dx mA ∧ (∀ f, RelO (fs.lookup f) (mA f)) ∧ PySem.Within mA (fs.map (·.1))
  | .own _ => ∃ o, h.get? a = some o
  | .xd fs => ∃ mA, h.Ns1 a mA ∧ ∀ f, RelO (fs.lookup f) (mA f)
  | .rng lo hi => ∃ t u v, h.get? a = some { cls := .type "range", data := .fields #[.int lo t, .int hi u, .int 1 v] }
  | .frz o u => h.get? a = some o ∧ ObjOk H h a u
  | .tbl ps => h.get? a = some { cls := .none, data := .fields ps }
  | .met f x => h.get? a = some (PySem.W.methodObj (.ref f) (.ref x))
  | .ext φ => φ h ∧ (∃ o, h.get? a = some o) ∧ ∀ h1 h2 : Heap, φ h1 → (∀ o, h1.get? a = some o → h2.get? a = some o) → φ h2
/-- the abstract heap is held -/
def HOk (H : Hp) (h : Heap) : Prop := ∀ a o, H a = some o → ObjOk P w H h a o
end

section
variable {P : Program} {w : World} {H H' : Hp} {h h' : Heap} {a : Addr} {o : HO}
theorem ObjOk.lt (x : ObjOk P w H h a o) : a < h.objs.size := by
  cases o with
  | lst xs => obtain ⟨_, _, _, _, e⟩ := x; exact Heap.lt_size e
  | tup xs => obtain ⟨_, _, _, p⟩ := x; exact p.lt
  | dK kvs => obtain ⟨_, _, _, _, o, _, _, e, _⟩ := x; exact Heap.lt_size e
  | dT kvs => obtain ⟨_, _, _, _, o, _, _, e, _⟩ := x; exact Heap.lt_size e
  | set S n => obtain ⟨o, _, _, _, e, _⟩ := x; exact Heap.lt_size e
  | ins C dx fs => obtain ⟨_, _, _, e, _⟩ := x; exact Heap.lt_size e
  | own y => obtain ⟨_, e⟩ := x; exact Heap.lt_size e
  | xd fs => obtain ⟨_, ⟨_, _, _, e, _⟩, _⟩ := x; exact Heap.lt_size e
  | rng lo hi => obtain ⟨_, _, _, e⟩ := x; exact Heap.lt_size e
  | frz ob u => obtain ⟨e, _⟩ := x; exact Heap.lt_size e
  | tbl ps => exact Heap.lt_size (show h.get? a = some _ from x)
  | met f y => exact Heap.lt_size (show h.get? a = some _ from x)
  | ext φ => obtain ⟨_, ⟨_, e⟩, _⟩ := x; exact Heap.lt_size e
theorem Paired.mapP {α β : Type} {F G : α → β → Prop} : ∀ {l₁ : List α} {l₂ : List β}, Paired F l₁ l₂ → (∀ a b, F a b → G a b) → Paired G l₁ l₂
  | _, _, .nil, _ => .nil
  | _, _, .cons r t, f => .cons (f _ _ r) (Paired.mapP t f)
/-- what an object's description leans on: its own object, its own dict, the tuples -/
theorem ObjOk.stay (x : ObjOk P w H h a o) (k : ∀ b u, (b = a ∨ H b = some (.own a)) → h.get? b = some u → h'.get? b = some u)
    (ho : ∀ b, H b = some (.own a) → H' b = some (.own a)) (ht : ∀ b xs, H b = some (.tup xs) → H' b = some (.tup xs)) : ObjOk P w H' h' a o := by
  induction o with
  | lst xs => obtain ⟨z, its, n, r, e⟩ := x; exact ⟨z, its, n, r, k _ _ (.inl rfl) e⟩
  | tup xs => obtain ⟨z, its, r, ob, e, c⟩ := x; exact ⟨z, its, r, ob, k _ _ (.inl rfl) e, c⟩
  | dK kvs => obtain ⟨z, y, vs, r, ob, es, ep, e, c⟩ := x; exact ⟨z, y, vs, r, ob, es, ep, k _ _ (.inl rfl) e, c⟩
  | dT kvs =>
    obtain ⟨z, y, xs, r, ob, es, ep, e, c⟩ := x
    exact ⟨z, y, xs, Paired.mapP r fun p q z => ⟨z.1, ht _ _ z.2.1, z.2.2⟩, ob, es, ep, k _ _ (.inl rfl) e, c⟩
  | set S n => obtain ⟨ob, es, ep, t, e, c⟩ := x; exact ⟨ob, es, ep, t, k _ _ (.inl rfl) e, c⟩
  | ins C dx fs =>
    obtain ⟨d, z, ne, e, mA, ⟨od, es, ep, e2, c⟩, r⟩ := x
    exact ⟨ho _ d, z, ne, k _ _ (.inl rfl) e, mA, ⟨od, es, ep, k _ _ (.inr d) e2, c⟩, r⟩
  | own y => obtain ⟨ob, e⟩ := x; exact ⟨ob, k _ _ (.inl rfl) e⟩
  | xd fs => obtain ⟨mA, ⟨od, es, ep, e, c⟩, r⟩ := x; exact ⟨mA, ⟨od, es, ep, k _ _ (.inl rfl) e, c⟩, r⟩
  | rng lo hi => obtain ⟨t, u, v, e⟩ := x; exact ⟨t, u, v, k _ _ (.inl rfl) e⟩
  | frz ob u ih => obtain ⟨e, q⟩ := x; exact ⟨k _ _ (.inl rfl) e, ih q⟩
  | tbl ps =>
    have e : h.get? a = some { cls := .none, data := .fields ps } := x
    show h'.get? a = some { cls := .none, data := .fields ps }
    exact k a _ (.inl rfl) e
  | met f y =>
    have e : h.get? a = some (PySem.W.methodObj (.ref f) (.ref y)) := x
    show h'.get? a = some (PySem.W.methodObj (.ref f) (.ref y))
    exact k a _ (.inl rfl) e
  | ext φ => obtain ⟨p, ⟨o, e⟩, st⟩ := x; exact ⟨st _ _ p fun o q => k _ _ (.inl rfl) q, ⟨o, k _ _ (.inl rfl) e⟩, st⟩
theorem HOk.lt (x : HOk P w H h) (e : H a = some o) : a < h.objs.size := (x a o e).lt
theorem HOk.fresh (x : HOk P w H h) (e : h.objs.size ≤ a) : H a = none := by
  cases q : H a with
  | none => rfl
  | some u => exact absurd (Nat.lt_of_lt_of_le (x.lt q) e) (Nat.lt_irrefl _)
/-- every object of the heap is kept -/
theorem HOk.kept (x : HOk P w H h) (k : ∀ b u, h.get? b = some u → h'.get? b = some u) : HOk P w H h' := fun a o e =>
  (x a o e).stay (fun b u _ q => k b u q) (fun _ q => q) fun _ _ q => q
/-- a new object is laid and tracked -/
theorem HOk.laid (x : HOk P w H h) (k : ∀ b u, h.get? b = some u → h'.get? b = some u) (hp : h.objs.size ≤ a) (new : ObjOk P w (upd H a o) h' a o) : HOk P w (upd H a o) h' := fun b u e => by
  have hn := x.fresh hp
  by_cases hb : b = a
  · subst hb; rw [upd_same] at e; cases e; exact new
  · rw [upd_ne hb] at e
    exact (x b u e).stay (fun c v _ q => k c v q) (fun c q => by rw [upd_ne (ne_of_none q hn)]; exact q) fun c xs q => by rw [upd_ne (ne_of_none q hn)]; exact q
end

/-- what may be read as u: it is u, or a known u -/
def Rd (H : Hp) (a : Addr) (u : HO) : Prop := H a = some u ∨ ∃ o, H a = some (.frz o u)
theorem Rd.of {H : Hp} {a : Addr} {u : HO} (h : H a = some u) : Rd H a u := .inl h
theorem Rd.ok {P : Program} {w : World} {H : Hp} {h : Heap} {a : Addr} {u : HO} (r : Rd H a u) (x : HOk P w H h) : ObjOk P w H h a u := by
  rcases r with r | ⟨o, r⟩
  · exact x a u r
  · obtain ⟨_, q⟩ := x a _ r
    exact q
/-- what may be written -/
def Mut : Option HO → Prop
  | some (.lst _) => True
  | some (.dK _) => True
  | some (.dT _) => True
  | some (.set _ _) => True
  | some (.ins _ _ _) => True
  | some (.ext _) => True
  | _ => False
section
variable {P : Program} {w : World} {H : Hp} {h h' : Heap} {x e : Addr} {o' : HO}
/-- the object at e is changed: x itself, or the dict of the instance x -/
theorem HOk.write (ok : HOk P w H h) (mu : Mut (H x)) (he : e = x ∨ H e = some (.own x)) (k : ∀ b u, b ≠ e → h.get? b = some u → h'.get? b = some u) (heo : ∃ u, h'.get? e = some u)
    (new : ObjOk P w (upd H x o') h' x o') : HOk P w (upd H x o') h' := fun b u q => by
  have nown : ∀ c y, H c = some (.own y) → c ≠ x := fun c y r z => by subst z; rw [r] at mu; exact mu
  have ntup : ∀ c xs, H c = some (.tup xs) → c ≠ x := fun c xs r z => by subst z; rw [r] at mu; exact mu
  by_cases hb : b = x
  · subst hb; rw [upd_same] at q; cases q; exact new
  · rw [upd_ne hb] at q
    by_cases hbe : b = e
    · have q' : H b = some (.own x) := by
        rcases he with z | z
        · exact absurd (hbe.trans z) hb
        · rw [hbe]; exact z
      rw [q] at q'; cases q'
      obtain ⟨v, hv⟩ := heo
      exact ⟨v, by rw [hbe]; exact hv⟩
    · refine (ok b u q).stay (fun c v hc r => k c v ?_ r) (fun c r => by rw [upd_ne (nown c b r)]; exact r) fun c xs r => by rw [upd_ne (ntup c xs r)]; exact r
      rcases hc with rfl | hc
      · exact hbe
      · rintro rfl
        rcases he with z | z
        · exact nown c b hc z
        · rw [hc] at z; cases z; exact hb rfl
end

/-! ### kept unless tracked; of the frames at fs (the callers') the slots may change (an exception that passes writes there); of the records at ex (iterators) nothing is said -/
structure Un (fs ex : List Addr) (H H' : Hp) (h h' : Heap) : Prop where
  keep : ∀ b o, h.get? b = some o → H b = none → b ∉ fs → b ∉ ex → h'.get? b = some o
  slot : ∀ b o, h.get? b = some o → H b = none → b ∈ fs → b ∉ ex → ∃ sl, h'.get? b = some { o with slots := sl }
  free : ∀ b o, h.get? b = some o → H b = none → b ∉ ex → H' b = none
  there : ∀ b o, h.get? b = some o → b ∉ ex → ∃ o', h'.get? b = some o'
  tups : ∀ b xs, H b = some (.tup xs) → H' b = some (.tup xs)
  frzs : ∀ b o u, H b = some (.frz o u) → H' b = some (.frz o u)
  tbls : ∀ b ps, H b = some (.tbl ps) → ∃ more, H' b = some (.tbl (ps ++ more))
section
variable {fs fs' ex ex' : List Addr} {H H1 H2 : Hp} {h h1 h2 h' : Heap} {a x e : Addr} {o : HO}
theorem Un.any (u : Un fs ex H H1 h h1) {b : Addr} {ob : Obj} (q : h.get? b = some ob) (n : H b = none) (hx : b ∉ ex) : ∃ sl, h1.get? b = some { ob with slots := sl } := by
  by_cases hb : b ∈ fs
  · exact u.slot b ob q n hb hx
  · exact ⟨ob.slots, u.keep b ob q n hb hx⟩
theorem Un.trans (a : Un fs ex H H1 h h1) (b : Un fs ex H1 H2 h1 h2) : Un fs ex H H2 h h2 where
  keep := fun c ob q n hc hx => b.keep c ob (a.keep c ob q n hc hx) (a.free c ob q n hx) hc hx
  slot := fun c ob q n hc hx => by
    obtain ⟨sl, e1⟩ := a.slot c ob q n hc hx
    obtain ⟨sl', e2⟩ := b.slot c _ e1 (a.free c ob q n hx) hc hx
    exact ⟨sl', e2⟩
  free := fun c ob q n hx => by
    obtain ⟨o', e1⟩ := a.there c ob q hx
    exact b.free c o' e1 (a.free c ob q n hx) hx
  there := fun c ob q hx => by
    obtain ⟨o', e1⟩ := a.there c ob q hx
    exact b.there c o' e1 hx
  tups := fun c xs q => b.tups c xs (a.tups c xs q)
  frzs := fun c ob xs q => b.frzs c ob xs (a.frzs c ob xs q)
  tbls := fun c ps q => by
    obtain ⟨m1, e1⟩ := a.tbls c ps q
    obtain ⟨m2, e2⟩ := b.tbls c _ e1
    exact ⟨m1 ++ m2, by rw [e2, Array.append_assoc]⟩
theorem Un.kept (k : ∀ b u, h.get? b = some u → h'.get? b = some u) : Un fs ex H H h h' :=
  ⟨fun b ob q _ _ _ => k b ob q, fun b ob q _ _ _ => ⟨ob.slots, k b ob q⟩, fun _ _ _ n _ => n, fun b ob q _ => ⟨ob, k b ob q⟩, fun _ _ q => q, fun _ _ _ q => q, fun _ ps q => ⟨#[], by rw [q]; simp⟩⟩
theorem Un.refl : Un fs ex H H h h := Un.kept fun _ _ q => q
theorem Un.laid (k : ∀ b u, h.get? b = some u → h'.get? b = some u) (hp : h.objs.size ≤ a) (hn : H a = none) : Un fs ex H (upd H a o) h h' where
  keep := fun b u q _ _ _ => k b u q
  slot := fun b u q _ _ _ => ⟨u.slots, k b u q⟩
  free := fun b u q n _ => by rw [upd_ne (Nat.ne_of_lt (Nat.lt_of_lt_of_le (Heap.lt_size q) hp))]; exact n
  there := fun b u q _ => ⟨u, k b u q⟩
  tups := fun b xs q => by rw [upd_ne (ne_of_none q hn)]; exact q
  frzs := fun b u xs q => by rw [upd_ne (ne_of_none q hn)]; exact q
  tbls := fun b ps q => ⟨#[], by rw [upd_ne (ne_of_none q hn), q]; simp⟩
theorem Un.write (mu : Mut (H x)) (he : e = x ∨ H e = some (.own x)) (k : ∀ b u, b ≠ e → h.get? b = some u → h'.get? b = some u) (heo : ∃ u, h'.get? e = some u) : Un fs ex H (upd H x o) h h' := by
  have hx : ∀ b, H b = none → b ≠ x := fun b n z => by subst z; rw [n] at mu; exact mu
  have hb : ∀ b, H b = none → b ≠ e := fun b n z => by
    subst z
    rcases he with r | r
    · exact hx b n r
    · rw [n] at r; cases r
  have hm : ∀ b u, H b = some u → ¬ Mut (some u) → b ≠ x := fun b u q nm z => by subst z; rw [q] at mu; exact nm mu
  refine ⟨fun b u q n _ _ => k b u (hb b n) q, fun b u q n _ _ => ⟨u.slots, k b u (hb b n) q⟩, fun b u q n _ => by rw [upd_ne (hx b n)]; exact n, fun b u q _ => ?_,
    fun b xs q => by rw [upd_ne (hm b _ q fun z => z)]; exact q, fun b u xs q => by rw [upd_ne (hm b _ q fun z => z)]; exact q, fun b ps q => ⟨#[], by rw [upd_ne (hm b _ q fun z => z), q]; simp⟩⟩
  by_cases hbe : b = e
  · subst hbe; exact heo
  · exact ⟨u, k b u hbe q⟩
theorem Un.mono (u : Un fs ex H H1 h h1) (hs : ∀ b ∈ fs, b ∈ fs') (hx : ∀ b ∈ ex, b ∈ ex') : Un fs' ex' H H1 h h1 :=
  ⟨fun b ob q n hb he => u.keep b ob q n (fun z => hb (hs b z)) fun z => he (hx b z), fun _ _ q n _ he => u.any q n fun z => he (hx _ z), fun b ob q n he => u.free b ob q n fun z => he (hx b z), fun b ob q he => u.there b ob q fun z => he (hx b z), u.tups, u.frzs, u.tbls⟩
end

/-! ### the heap without what is tracked -/
def trk (h : Heap) (H : Hp) : List Addr := (List.range h.objs.size).filter fun a => (H a).isSome
def hidT (h : Heap) (H : Hp) : Heap := PySem.W.hideAll h (trk h H)
theorem hidT_size (h : Heap) (H : Hp) : (hidT h H).objs.size = h.objs.size := PySem.W.hideAll_size _ _
theorem hidT_get {h : Heap} {H : Hp} {b : Addr} {o : Obj} (e : h.get? b = some o) (n : H b = none) : (hidT h H).get? b = some o :=
  PySem.W.hideAll_get _ e fun hm => by
    have q : (H b).isSome = true := (List.mem_filter.mp hm).2
    rw [n] at q; simp at q
theorem of_hidT {h : Heap} {H : Hp} {b : Addr} {o : Obj} (e : (hidT h H).get? b = some o) : h.get? b = some o ∧ H b = none := by
  have e' : h.get? b = some o := PySem.W.of_hideAll (trk h H) e
  refine ⟨e', ?_⟩
  cases q : H b with
  | none => rfl
  | some x =>
    have hm : b ∈ trk h H := List.mem_filter.mpr ⟨List.mem_range.mpr (Heap.lt_size e'), by simp [q]⟩
    have z : (hidT h H).get? b = none := PySem.W.hideAll_none (trk h H) hm
    rw [z] at e; cases e

/-! ### OpenK's ledger, filled with every new object but one -/
def allNews (g h : Heap) (L : Addr) : List (Addr × Obj) := (List.range h.objs.size).filterMap fun a => if a = L ∨ (g.get? a).isSome = true then none else (h.get? a).map fun o => (a, o)
def rest (g h : Heap) (L d : Addr) : List (Addr × Obj) := (allNews g h L).filter fun p => decide (p.1 ≠ d)
end L2

namespace L2
open PySem PySem.Spec PyProof.Rows

/-- the module's facts, over the base: the heap at the law's entry without what is tracked there -/
structure Mod (K : PySem.W.Frag) (mg : Str → Option Value) (base : Heap) : Prop where
  kin : K.In base
  glob : base.Ns mainGlobals mg
  blt : ∃ mb, base.Ns builtinsNs mb ∧ ∀ x : Str, x ≠ "__name__" → mb x = bootBuiltins x
  nolimit : base.NoLimit

/-- the context: a def's body (or a comprehension's block) running. base: fixed through the whole law; s₀, H₀: the entry; outer: the frames whose slots others may change (a def's callers); stack: all frames that run;
   ex: iterators that were made ahead of the entry and are walked here (a comprehension's); fn: the names whose cells were made at the entry (a def: all; a comprehension's block: its own); calm: not within an except suite; pn: pins that every state bears; xe: what is wanted of an exception that leaves the code -/
structure Cx where
  prog : Program
  w : World
  K : PySem.W.Frag
  mg : Str → Option Value
  base : Heap
  A : Around
  N : List Str
  s_0 : Shared
  H_0 : Hp
  env : Env
  outer : List Env
  stack : List Env
  ex : List Addr
  fn : Str → Bool
  calm : Bool
  pn : List (Addr × Obj)
  xe : Value → Shared → Prop
/-- the callers' frames -/
def frs (l : List Env) : List Addr := l.filterMap (·.frame)
abbrev Cx.fs (X : Cx) : List Addr := frs X.outer

def Vis (sc : Scope) (x : Str) : Prop := sc.names.lookup x = some .local ∨ sc.names.lookup x = some .cell ∨ sc.names.lookup x = some .free
def Loc (sc : Scope) (x : Str) : Prop := sc.names.lookup x = some .local ∨ sc.names.lookup x = some .cell
def Look (env : Env) (h : Heap) (m : Str → Option Value) (x : Str) (u : Value) : Prop :=
  (env.kindOf x = some .local ∧ m x = some u) ∨ ((env.kindOf x = some .cell ∨ env.kindOf x = some .free) ∧ ∃ c, env.cells.lookup x = some c ∧ h.IsCell c (some u))

structure Cx.Ok (X : Cx) : Prop where
  mod : Mod X.K X.mg X.base
  kind : X.env.scope.kind = .function
  glob : X.env.globals = mainGlobals
  blt : X.env.builtins = builtinsNs
  above : X.s_0.heap.objs.size ≤ X.env.locals
  inj : ∀ x y c, X.env.cells.lookup x = some c → X.env.cells.lookup y = some c → x = y
  has : ∀ x, (X.env.kindOf x = some .cell ∨ X.env.kindOf x = some .free) → ∃ c, X.env.cells.lookup x = some c
  cab : ∀ x c, X.fn x = true → X.env.cells.lookup x = some c → X.s_0.heap.objs.size ≤ c
  hd : X.calm = true → X.A.handled = none
  frames : X.A.frames = some X.stack
  stk : X.stack = X.outer ∨ (X.stack = X.env :: X.outer ∧ X.env.frame = some X.env.locals)
  exf : ∀ b ∈ X.ex, b ≠ X.env.locals ∧ ∀ x c, X.env.cells.lookup x = some c → c ≠ b
  bs : ∀ b o, X.base.get? b = some o → X.s_0.heap.get? b = some o ∧ X.H_0 b = none
  bsz : X.base.objs.size ≤ X.s_0.heap.objs.size
  noex : ∀ b o, X.base.get? b = some o → b ∉ X.ex
  exfs : ∀ b ∈ X.ex, b ∉ X.fs
  funs : X.s_0.heap.FunFrames X.base X.outer
  frf : ∀ b ∈ X.fs, X.H_0 b = none

structure Inv (X : Cx) (pins : List (Addr × Obj)) (σ : List (Option V)) (H : Hp) (s : Shared) : Prop where
  ok : X.Ok
  os : s.os = X.s_0.os
  bare : AllBare s.gens
  base : Un X.fs X.ex X.H_0 H X.s_0.heap s.heap
  loc : ∃ m, s.heap.Ns X.env.locals m ∧ ∀ (i : Nat) (x : Str) (v : V), X.N[i]? = some x → σ[i]? = some (some v) → Vis X.env.scope x → ∃ u, RelV v u ∧ Look X.env s.heap m x u
  cell : ∀ x c, X.env.cells.lookup x = some c → ∃ v, s.heap.IsCell c v
  free : H X.env.locals = none
  freeC : ∀ x c, X.env.cells.lookup x = some c → H c = none
  pin : ∀ p ∈ X.pn ++ pins, s.heap.get? p.1 = some p.2 ∧ H p.1 = none ∧ p.1 ≠ X.env.locals ∧ p.1 ∉ X.fs ∧ ∀ v, p.2.data ≠ .cell v
  hok : HOk X.prog X.w H s.heap
  len : σ.length = X.N.length

section
variable {X : Cx} {pins : List (Addr × Obj)} {σ : List (Option V)} {H H' : Hp} {s : Shared} {h' : Heap}

theorem Cx.Ok.nofr (ok : X.Ok) {b : Addr} {o : Obj} (e : X.base.get? b = some o) : b ∉ X.fs := fun hb => by
  have := (ok.funs.mem hb).1
  rw [e] at this; cases this
theorem Inv.bs (I : Inv X pins σ H s) : ∀ b o, X.base.get? b = some o → s.heap.get? b = some o ∧ H b = none := fun b o e =>
  ⟨I.base.keep b o (I.ok.bs b o e).1 (I.ok.bs b o e).2 (I.ok.nofr e) (I.ok.noex b o e), I.base.free b o (I.ok.bs b o e).1 (I.ok.bs b o e).2 (I.ok.noex b o e)⟩
theorem Inv.bk (I : Inv X pins σ H s) : ∀ b o, X.base.get? b = some o → s.heap.get? b = some o := fun b o e => (I.bs b o e).1
theorem Inv.mod (I : Inv X pins σ H s) : Mod X.K X.mg X.base := I.ok.mod
theorem Inv.kIn (I : Inv X pins σ H s) : X.K.In s.heap := I.ok.mod.kin.keeps I.bk
theorem Inv.nolimit (I : Inv X pins σ H s) : s.heap.NoLimit := I.ok.mod.nolimit.keeps I.bk
theorem Inv.lt (I : Inv X pins σ H s) : X.env.locals < s.heap.objs.size := let ⟨_, hn, _⟩ := I.loc; hn.lt
theorem Inv.sz (I : Inv X pins σ H s) : X.s_0.heap.objs.size ≤ s.heap.objs.size := Nat.le_trans I.ok.above (Nat.le_of_lt I.lt)
theorem Inv.nofs (I : Inv X pins σ H s) {a : Addr} (h : s.heap.objs.size ≤ a) : a ∉ X.fs := fun hb => by
  obtain ⟨_, o, ho, _⟩ := I.ok.funs.mem hb
  exact absurd (Nat.lt_of_lt_of_le (Heap.lt_size ho) (Nat.le_trans I.sz h)) (Nat.lt_irrefl _)
theorem Inv.cne (I : Inv X pins σ H s) : ∀ x c, X.env.cells.lookup x = some c → c ≠ X.env.locals := fun x c e z => by
  obtain ⟨v, o, ho, hd⟩ := I.cell x c e
  obtain ⟨m, ⟨o', es, ep, ho', hd', _⟩, _⟩ := I.loc
  rw [z, ho'] at ho; cases ho; rw [hd'] at hd; cases hd
theorem Inv.funs (I : Inv X pins σ H s) : s.heap.FunFrames X.base X.outer := by
  have all : ∀ (l : List Env), (∀ b ∈ frs l, b ∈ X.fs) → X.s_0.heap.FunFrames X.base l → s.heap.FunFrames X.base l := by
    intro l
    induction l with
    | nil => intro _ _; trivial
    | cons env r ih =>
      intro hs hl
      obtain ⟨hk, ⟨L, o, hf, hn, ho, hd⟩, hr⟩ := hl
      have hL : L ∈ X.fs := hs L (by unfold frs; rw [List.filterMap_cons, hf]; exact List.mem_cons_self)
      obtain ⟨sl, e⟩ := I.base.slot L o ho (I.ok.frf L hL) hL fun z => I.ok.exfs L z hL
      exact ⟨hk, ⟨L, _, hf, hn, e, hd⟩, ih (fun b hb => hs b (by unfold frs; rw [List.filterMap_cons, hf]; exact List.mem_cons_of_mem _ hb)) hr⟩
  exact all X.outer (fun _ hb => hb) I.ok.funs

/-- the frames that run, for a call -/
theorem Inv.stack (I : Inv X pins σ H s) : s.heap.FunFrames X.base X.stack := by
  rcases I.ok.stk with e | ⟨e, hf⟩
  · rw [e]; exact I.funs
  · rw [e]
    obtain ⟨m, hn, _⟩ := I.loc
    refine .cons (by rw [I.ok.kind]; decide) hf hn ?_ I.funs
    exact Heap.get?_none_of_le (Nat.le_trans I.ok.bsz I.ok.above)
theorem Inv.stkSub (I : Inv X pins σ H s) : ∀ b ∈ frs X.stack, b ∈ X.env.locals :: X.fs := fun b hb => by
  rcases I.ok.stk with e | ⟨e, hf⟩
  · rw [e] at hb; exact List.mem_cons_of_mem _ hb
  · rw [e] at hb
    unfold frs at hb
    rw [List.filterMap_cons, hf] at hb
    exact hb
theorem Inv.stkFree (I : Inv X pins σ H s) : ∀ b ∈ frs X.stack, H b = none := fun b hb => by
  rcases List.mem_cons.mp (I.stkSub b hb) with e | hb
  · rw [e]; exact I.free
  · obtain ⟨_, o, ho, _⟩ := I.ok.funs.mem hb
    exact I.base.free b o ho (I.ok.frf b hb) fun z => I.ok.exfs b z hb

/-- THE STEP: the untracked objects but the frame and the records at ch are kept (the callers' frames up to slots), the frame's map is kept, the new abstract heap is held -/
theorem Inv.step {g' : Array GenState} {t' : Nat} {d' : Drawn} {ch : List Addr} (I : Inv X pins σ H s)
    (hch : ∀ b ∈ ch, (b ∈ X.ex ∨ X.s_0.heap.objs.size ≤ b) ∧ b ≠ X.env.locals ∧ (∀ x c, X.env.cells.lookup x = some c → c ≠ b) ∧ ∀ p ∈ X.pn ++ pins, p.1 ≠ b)
    (keep : ∀ b o, b ≠ X.env.locals → b ∉ X.fs → b ∉ ch → s.heap.get? b = some o → H b = none → h'.get? b = some o)
    (slot : ∀ b o, b ≠ X.env.locals → b ∈ X.fs → b ∉ ch → s.heap.get? b = some o → H b = none → ∃ sl, h'.get? b = some { o with slots := sl }) (free : ∀ b o, b ∉ ch → s.heap.get? b = some o → H b = none → H' b = none)
    (there : ∀ b o, b ∉ ch → s.heap.get? b = some o → ∃ o', h'.get? b = some o')
    (tups : ∀ b xs, H b = some (.tup xs) → H' b = some (.tup xs)) (frzs : ∀ b o u, H b = some (.frz o u) → H' b = some (.frz o u)) (tbls : ∀ b ps, H b = some (.tbl ps) → ∃ more, H' b = some (.tbl (ps ++ more)))
    (ns : ∀ m, s.heap.Ns X.env.locals m → h'.Ns X.env.locals m) (hok : HOk X.prog X.w H' h') (hg : AllBare g') :
    Inv X pins σ H' { s with heap := h', gens := g', drawn := d', toks := t' } := by
  have neL : ∀ b o, X.s_0.heap.get? b = some o → b ≠ X.env.locals := fun b o e => Nat.ne_of_lt (Nat.lt_of_lt_of_le (Heap.lt_size e) I.ok.above)
  have neC : ∀ b o, X.s_0.heap.get? b = some o → b ∉ X.ex → b ∉ ch := fun b o e hx hb => by
    rcases (hch b hb).1 with z | z
    · exact hx z
    · exact absurd (Nat.lt_of_lt_of_le (Heap.lt_size e) z) (Nat.lt_irrefl _)
  have cellK : ∀ x c, X.env.cells.lookup x = some c → ∀ v, s.heap.IsCell c v → h'.IsCell c v := fun x c e v ⟨o, ho, hd⟩ => by
    have nch : c ∉ ch := fun z => (hch c z).2.2.1 x c e rfl
    by_cases hc : c ∈ X.fs
    · obtain ⟨sl, q⟩ := slot c o (I.cne x c e) hc nch ho (I.freeC x c e)
      exact ⟨_, q, hd⟩
    · exact ⟨o, keep c o (I.cne x c e) hc nch ho (I.freeC x c e), hd⟩
  refine ⟨I.ok, I.os, hg, ⟨fun b o e n hb hx => ?_, fun b o e n hb hx => ?_, fun b o e n hx => ?_, fun b o e hx => ?_, fun b xs e => tups b xs (I.base.tups b xs e), fun b o xs e => frzs b o xs (I.base.frzs b o xs e), fun b ps e => ?_⟩, ?_, fun x c e => ?_, ?_, fun x c e => ?_, fun p hp => ?_, hok, I.len⟩
  · exact keep b o (neL b o e) hb (neC b o e hx) (I.base.keep b o e n hb hx) (I.base.free b o e n hx)
  · obtain ⟨sl, e1⟩ := I.base.slot b o e n hb hx
    obtain ⟨sl', e2⟩ := slot b _ (neL b o e) hb (neC b o e hx) e1 (I.base.free b o e n hx)
    exact ⟨sl', e2⟩
  · obtain ⟨o', e1⟩ := I.base.there b o e hx
    exact free b o' (neC b o e hx) e1 (I.base.free b o e n hx)
  · obtain ⟨o', e1⟩ := I.base.there b o e hx
    exact there b o' (neC b o e hx) e1
  · obtain ⟨m1, e1⟩ := I.base.tbls b ps e
    obtain ⟨m2, e2⟩ := tbls b _ e1
    exact ⟨m1 ++ m2, by rw [e2, Array.append_assoc]⟩
  · obtain ⟨m, hn, hl⟩ := I.loc
    refine ⟨m, ns m hn, fun i x v e1 e2 e3 => ?_⟩
    obtain ⟨u, r, l⟩ := hl i x v e1 e2 e3
    refine ⟨u, r, ?_⟩
    rcases l with l | ⟨k, c, e, z⟩
    · exact .inl l
    · exact .inr ⟨k, c, e, cellK x c e _ z⟩
  · obtain ⟨v, z⟩ := I.cell x c e
    exact ⟨v, cellK x c e v z⟩
  · obtain ⟨m, ⟨o, _, _, ho, _⟩, _⟩ := I.loc
    exact free _ o (fun z => (hch _ z).2.1 rfl) ho I.free
  · obtain ⟨v, o, ho, hd⟩ := I.cell x c e
    exact free c o (fun z => (hch c z).2.2.1 x c e rfl) ho (I.freeC x c e)
  · obtain ⟨e, n, ne, nf, d⟩ := I.pin p hp
    have nch : p.1 ∉ ch := fun z => (hch p.1 z).2.2.2 p hp rfl
    exact ⟨keep p.1 p.2 ne nf nch e n, free p.1 p.2 nch e n, ne, nf, d⟩
/-- .. where the frame's own object is kept too -/
theorem Inv.un {t' : Nat} (I : Inv X pins σ H s) (u : Un X.fs [] H H' s.heap h') (hok : HOk X.prog X.w H' h') : Inv X pins σ H' { s with heap := h', toks := t' } := by
  obtain ⟨m, ⟨o, es, ep, ho, r⟩, _⟩ := id I.loc
  obtain ⟨sl, hL⟩ := u.any ho I.free (by simp)
  exact I.step (g' := s.gens) (d' := s.drawn) (ch := []) (fun _ z => nomatch z) (fun b o _ hb _ e n => u.keep b o e n hb (by simp)) (fun b o _ hb _ e n => u.slot b o e n hb (by simp)) (fun b o _ e n => u.free b o e n (by simp)) (fun b o _ e => u.there b o e (by simp)) u.tups u.frzs u.tbls (fun m' hm => by
    obtain ⟨o', es', ep', ho', r'⟩ := hm
    rw [ho] at ho'; cases ho'
    exact ⟨_, es', ep', hL, r'⟩) hok I.bare
/-- behind a call (or a comprehension's block): the slots of this frame may have changed too, the records at ch may have turned -/
theorem Inv.call {g' : Array GenState} {t' : Nat} {d' : Drawn} {ch : List Addr} (I : Inv X pins σ H s) (u : Un (frs X.stack) ch H H' s.heap h') (hok : HOk X.prog X.w H' h') (hg : AllBare g')
    (hch : ∀ b ∈ ch, (b ∈ X.ex ∨ X.s_0.heap.objs.size ≤ b) ∧ b ≠ X.env.locals ∧ (∀ x c, X.env.cells.lookup x = some c → c ≠ b) ∧ ∀ p ∈ X.pn ++ pins, p.1 ≠ b) :
    Inv X pins σ H' { s with heap := h', gens := g', drawn := d', toks := t' } := by
  obtain ⟨m, ⟨o, es, ep, ho, r⟩, _⟩ := id I.loc
  obtain ⟨sl, hL⟩ := u.any ho I.free fun z => (hch _ z).2.1 rfl
  exact I.step (ch := ch) hch (fun b o hL hb hc e n => u.keep b o e n (fun z => (List.mem_cons.mp (I.stkSub b z)).elim hL hb) hc) (fun b o _ _ hc e n => u.any e n hc) (fun b o hc e n => u.free b o e n hc) (fun b o hc e => u.there b o e hc) u.tups u.frzs u.tbls (fun m' hm => by
    obtain ⟨o', es', ep', ho', r'⟩ := hm
    rw [ho] at ho'; cases ho'
    exact ⟨_, es', ep', hL, r'⟩) hok hg
/-- an untracked record of ours (an iterator) has turned -/
theorem Inv.turned {t' : Nat} {it : Addr} (I : Inv X pins σ H s) (k : ∀ b o, b ≠ it → s.heap.get? b = some o → h'.get? b = some o) (hn : H it = none) (hL : it ≠ X.env.locals)
    (h1 : it ∈ X.ex ∨ X.s_0.heap.objs.size ≤ it) (h2 : ∀ x c, X.env.cells.lookup x = some c → c ≠ it) (h3 : ∀ p ∈ X.pn ++ pins, p.1 ≠ it) : Inv X pins σ H { s with heap := h', toks := t' } := by
  have nit : ∀ b u, H b = some u → b ≠ it := fun b u e z => by rw [z, hn] at e; cases e
  refine I.step (g' := s.gens) (d' := s.drawn) (ch := [it]) (fun b hb => ?_) (fun b o _ _ hc e _ => k b o (fun z => hc (by simp [z])) e) (fun b o _ _ hc e _ => ⟨o.slots, k b o (fun z => hc (by simp [z])) e⟩) (fun _ _ _ _ n => n)
    (fun b o hc e => ⟨o, k b o (fun z => hc (by simp [z])) e⟩) (fun _ _ e => e) (fun _ _ _ e => e) (fun b ps e => ⟨#[], by rw [e]; simp⟩) (fun m hm => ?_) (fun b u e => ?_) I.bare
  · have e : b = it := by simpa using hb
    subst e
    exact ⟨h1, hL, h2, h3⟩
  · obtain ⟨o, es, ep, ho, r⟩ := hm
    exact ⟨o, es, ep, k _ o (Ne.symm hL) ho, r⟩
  · refine (I.hok b u e).stay (fun c v hc q => k c v ?_ q) (fun _ q => q) fun _ _ q => q
    rcases hc with z | z
    · rw [z]; exact nit b u e
    · exact nit c _ z
theorem Inv.tok (I : Inv X pins σ H s) (t : Nat) : Inv X pins σ H { s with toks := t } := I.un (h' := s.heap) (t' := t) Un.refl I.hok
/-- all objects kept -/
theorem Inv.kept {t' : Nat} (I : Inv X pins σ H s) (k : ∀ b u, s.heap.get? b = some u → h'.get? b = some u) : Inv X pins σ H { s with heap := h', toks := t' } := I.un (Un.kept k) (I.hok.kept k)
/-- a new object laid and tracked -/
theorem Inv.laid {a : Addr} {o : HO} {t' : Nat} (I : Inv X pins σ H s) (k : ∀ b u, s.heap.get? b = some u → h'.get? b = some u) (hp : s.heap.objs.size ≤ a) (new : ObjOk X.prog X.w (upd H a o) h' a o) :
    Inv X pins σ (upd H a o) { s with heap := h', toks := t' } := I.un (Un.laid k hp (I.hok.fresh hp)) (I.hok.laid k hp new)
/-- an object written -/
theorem Inv.write {x e : Addr} {o : HO} {t' : Nat} (I : Inv X pins σ H s) (mu : Mut (H x)) (he : e = x ∨ H e = some (.own x)) (k : ∀ b u, b ≠ e → s.heap.get? b = some u → h'.get? b = some u) (heo : ∃ u, h'.get? e = some u)
    (new : ObjOk X.prog X.w (upd H x o) h' x o) : Inv X pins σ (upd H x o) { s with heap := h', toks := t' } := I.un (Un.write mu he k heo) (I.hok.write mu he k heo new)
theorem Inv.pins_of {pins' : List (Addr × Obj)} (I : Inv X pins σ H s) (h : ∀ p ∈ pins', s.heap.get? p.1 = some p.2 ∧ H p.1 = none ∧ p.1 ≠ X.env.locals ∧ p.1 ∉ X.fs ∧ ∀ v, p.2.data ≠ .cell v) : Inv X pins' σ H s :=
  ⟨I.ok, I.os, I.bare, I.base, I.loc, I.cell, I.free, I.freeC, fun p hp => (List.mem_append.mp hp).elim (fun z => I.pin p (List.mem_append_left _ z)) (h p), I.hok, I.len⟩

theorem nodup_ix {N : List Str} (hN : N.Nodup) {i j : Nat} {x : Str} (a : N[i]? = some x) (b : N[j]? = some x) : i = j := by
  obtain ⟨h1, e1⟩ := List.getElem?_eq_some_iff.mp a
  obtain ⟨h2, e2⟩ := List.getElem?_eq_some_iff.mp b
  exact (List.getElem_inj hN).mp (e1.trans e2.symm)

/-- a name is stored; what changed -/
theorem store_ok2 {M : Model} {A : Around} {E : Value → Shared → Prop} {i : Nat} {x : Str} {v : V} {u : Value} {Q : Unit → Shared → Prop} (I : Inv X pins σ H s) (hN : X.N.Nodup) (hi : X.N[i]? = some x) (hx : Loc X.env.scope x) (r : RelV v u)
    (h : ∀ s', Inv X pins (σ.set i (some v)) H s' → (∃ a, Heap.SameBut a s.heap s'.heap ∧ (a = X.env.locals ∨ X.env.cells.lookup x = some a)) → Q () s') (hf : X.fn x = true ∨ X.env.scope.names.lookup x = some .local := by first | exact .inl rfl | exact .inr rfl | assumption) : wpAny M A (storeName X.env x u) Q E s := by
  obtain ⟨m, hn, hl⟩ := id I.loc
  have hcls : (X.env.scope.kind == .class || (X.env.scope.kind == .module && X.env.locals != X.env.globals)) = false := by rw [I.ok.kind]; rfl
  have hiσ : i < σ.length := by rw [I.len]; exact (List.getElem?_eq_some_iff.mp hi).1
  have cne := I.cne
  have tracked : ∀ {a : Addr} {h' : Heap}, (∃ o, s.heap.get? a = some o ∧ H a = none) → Heap.SameBut a s.heap h' → HOk X.prog X.w H h' := fun {a h'} ha hs b ob e => by
    obtain ⟨_, _, hfree⟩ := ha
    refine (I.hok b ob e).stay (fun c w' hc q => (hs.2 c ?_).trans q) (fun _ q => q) fun _ _ q => q
    rintro rfl
    rcases hc with rfl | hc
    · rw [hfree] at e; cases e
    · rw [hfree] at hc; cases hc
  rcases hx with hk | hk
  · refine wpAny_storeName_local hk hn (fun h' hn' hs => ?_) hcls
    obtain ⟨oL, _, _, hoL, _⟩ := id hn
    refine h _ ⟨I.ok, I.os, I.bare, ⟨fun b o e n hb hx => ?_, fun b o e n hb hx => ?_, I.base.free, fun b o e hx => ?_, I.base.tups, I.base.frzs, I.base.tbls⟩, ⟨_, hn', fun j y v' e1 e2 e3 => ?_⟩, fun y c e => ?_, I.free, I.freeC, fun p hp => ?_, tracked ⟨oL, hoL, I.free⟩ hs, by simpa using I.len⟩ ⟨_, hs, .inl rfl⟩
    · exact (hs.2 b (Nat.ne_of_lt (Nat.lt_of_lt_of_le (Heap.lt_size e) I.ok.above))).trans (I.base.keep b o e n hb hx)
    · obtain ⟨sl, e1⟩ := I.base.slot b o e n hb hx
      exact ⟨sl, (hs.2 b (Nat.ne_of_lt (Nat.lt_of_lt_of_le (Heap.lt_size e) I.ok.above))).trans e1⟩
    · obtain ⟨o', e1⟩ := I.base.there b o e hx
      exact ⟨o', (hs.2 b (Nat.ne_of_lt (Nat.lt_of_lt_of_le (Heap.lt_size e) I.ok.above))).trans e1⟩
    · by_cases hj : j = i
      · subst hj
        rw [hi] at e1; cases e1
        rw [List.getElem?_set_self hiσ] at e2
        cases e2
        exact ⟨u, r, .inl ⟨hk, by simp⟩⟩
      · rw [List.getElem?_set_ne (Ne.symm hj)] at e2
        obtain ⟨u', r', q⟩ := hl j y v' e1 e2 e3
        refine ⟨u', r', ?_⟩
        rcases q with ⟨k, e⟩ | ⟨k, c, e, z⟩
        · refine .inl ⟨k, ?_⟩
          have : y ≠ x := fun e => hj (nodup_ix hN e1 (e ▸ hi))
          simp [this, e]
        · exact .inr ⟨k, c, e, z.sameBut hs (cne y c e)⟩
    · obtain ⟨w', z⟩ := I.cell y c e
      exact ⟨w', z.sameBut hs (cne y c e)⟩
    · obtain ⟨e, n, ne, nf, d⟩ := I.pin p hp
      exact ⟨(hs.2 p.1 ne).trans e, n, ne, nf, d⟩
  · have hfn : X.fn x = true := by
      rcases hf with z | z
      · exact z
      · rw [z] at hk; cases hk
    obtain ⟨c, hc⟩ := I.ok.has x (.inl hk)
    obtain ⟨w', z⟩ := I.cell x c hc
    refine wpAny_storeName_cell I.ok.kind hk hc z (fun h' hc' hs => ?_)
    obtain ⟨oc, hoc, hocd⟩ := id z
    refine h { s with heap := h' } ⟨I.ok, I.os, I.bare, ⟨fun b o e n hb hx => ?_, fun b o e n hb hx => ?_, I.base.free, fun b o e hx => ?_, I.base.tups, I.base.frzs, I.base.tbls⟩, ⟨m, hn.sameBut hs (Ne.symm (cne x c hc)), fun j y v' e1 e2 e3 => ?_⟩, fun y c' e => ?_, I.free, I.freeC, fun p hp => ?_, tracked ⟨oc, hoc, I.freeC x c hc⟩ hs, by simpa using I.len⟩ ⟨c, hs, .inr hc⟩
    · exact (hs.2 b (Nat.ne_of_lt (Nat.lt_of_lt_of_le (Heap.lt_size e) (I.ok.cab x c hfn hc)))).trans (I.base.keep b o e n hb hx)
    · obtain ⟨sl, e1⟩ := I.base.slot b o e n hb hx
      exact ⟨sl, (hs.2 b (Nat.ne_of_lt (Nat.lt_of_lt_of_le (Heap.lt_size e) (I.ok.cab x c hfn hc)))).trans e1⟩
    · obtain ⟨o', e1⟩ := I.base.there b o e hx
      exact ⟨o', (hs.2 b (Nat.ne_of_lt (Nat.lt_of_lt_of_le (Heap.lt_size e) (I.ok.cab x c hfn hc)))).trans e1⟩
    · by_cases hj : j = i
      · subst hj
        rw [hi] at e1; cases e1
        rw [List.getElem?_set_self hiσ] at e2
        cases e2
        exact ⟨u, r, .inr ⟨.inl hk, c, hc, hc'⟩⟩
      · rw [List.getElem?_set_ne (Ne.symm hj)] at e2
        obtain ⟨u', r', q⟩ := hl j y v' e1 e2 e3
        refine ⟨u', r', ?_⟩
        rcases q with q | ⟨k, c', e, z'⟩
        · exact .inl q
        · refine .inr ⟨k, c', e, z'.sameBut hs ?_⟩
          rintro rfl
          exact hj (nodup_ix hN e1 (I.ok.inj _ _ _ e hc ▸ hi))
    · by_cases hcc : c' = c
      · subst hcc; exact ⟨_, hc'⟩
      · obtain ⟨w2, z2⟩ := I.cell y c' e
        exact ⟨w2, z2.sameBut hs hcc⟩
    · obtain ⟨e, n, ne, nf, d⟩ := I.pin p hp
      refine ⟨(hs.2 p.1 ?_).trans e, n, ne, nf, d⟩
      intro q
      rw [q, hoc] at e
      have q' : oc = p.2 := Option.some.inj e
      exact d w' (by rw [← q']; exact hocd)
theorem store_ok {M : Model} {A : Around} {E : Value → Shared → Prop} {i : Nat} {x : Str} {v : V} {u : Value} {Q : Unit → Shared → Prop} (I : Inv X pins σ H s) (hN : X.N.Nodup) (hi : X.N[i]? = some x) (hx : Loc X.env.scope x) (r : RelV v u)
    (h : ∀ s', Inv X pins (σ.set i (some v)) H s' → Q () s') (hf : X.fn x = true ∨ X.env.scope.names.lookup x = some .local := by first | exact .inl rfl | exact .inr rfl | assumption) : wpAny M A (storeName X.env x u) Q E s :=
  store_ok2 I hN hi hx r (fun s' I' _ => h s' I') hf
end

/-! ### the judgements -/
/-- an exception: its class, its own dict's address (where it has one), the abstract heap behind it -/
abbrev XK := Value → Option Addr → Hp → Prop
abbrev St := List (Option V)
abbrev VK := V → Hp → Prop
/-- an expression's reading; a test's; an argument list's -/
abbrev TE := St → Hp → VK → Prop
abbrev TT := St → Hp → (Bool → Hp → Prop) → Prop
abbrev TA := St → Hp → (List V → Hp → Prop) → Prop
/-- what is wanted behind a statement -/
structure Ends where
  nx : St → Hp → Prop
  rt : VK
  bk : St → Hp → Prop := fun _ _ => False
  ct : St → Hp → Prop := fun _ _ => False
abbrev TS := Ends → St → Hp → Prop

def EP (X : Cx) (pins : List (Addr × Obj)) (σ : St) (Q : VK) (u : Value) (s' : Shared) : Prop := ∃ v H', Inv X pins σ H' s' ∧ RelV v u ∧ Q v H'
def TP (X : Cx) (pins : List (Addr × Obj)) (σ : St) (Q : Bool → Hp → Prop) (b : Bool) (s' : Shared) : Prop := ∃ H', Inv X pins σ H' s' ∧ Q b H'
def AP (X : Cx) (pins : List (Addr × Obj)) (σ : St) (Q : List V → Hp → Prop) (us : List Value) (s' : Shared) : Prop := ∃ vs H', Inv X pins σ H' s' ∧ Vals vs us ∧ Q vs H'
def SP (X : Cx) (pins : List (Addr × Obj)) (D : Ends) (f : Flow) (s' : Shared) : Prop :=
  match f with
  | .next => ∃ σ' H', Inv X pins σ' H' s' ∧ D.nx σ' H'
  | .brk => ∃ σ' H', Inv X pins σ' H' s' ∧ D.bk σ' H'
  | .cont => ∃ σ' H', Inv X pins σ' H' s' ∧ D.ct σ' H'
  | .ret u => ∃ v σ' H', Inv X pins σ' H' s' ∧ RelV v u ∧ D.rt v H'

def PE (X : Cx) (e : Expr) (t : TE) : Prop :=
  ∀ (pins : List (Addr × Obj)) (s : Shared) (σ : St) (H : Hp) (Q : VK), Inv X pins σ H s → t σ H Q → wpAny (model X.prog X.w) X.A (eval e X.env) (EP X pins σ Q) X.xe s
def PT (X : Cx) (e : Expr) (t : TT) : Prop :=
  ∀ (pins : List (Addr × Obj)) (s : Shared) (σ : St) (H : Hp) (Q : Bool → Hp → Prop), Inv X pins σ H s → t σ H Q → wpAny (model X.prog X.w) X.A (isTrue e X.env (eval e X.env)) (TP X pins σ Q) X.xe s
/-- a test whatever its 'whole' is (and, or) -/
def PW (X : Cx) (e : Expr) (t : TT) : Prop :=
  ∀ (whole : Sem Value) (pins : List (Addr × Obj)) (s : Shared) (σ : St) (H : Hp) (Q : Bool → Hp → Prop), Inv X pins σ H s → t σ H Q → wpAny (model X.prog X.w) X.A (isTrue e X.env whole) (TP X pins σ Q) X.xe s
theorem PW.pt {X : Cx} {e : Expr} {t : TT} (h : PW X e t) : PT X e t := h _
/-- an argument list (no star), from the left -/
def PA (X : Cx) (es : List Expr) (t : TA) : Prop :=
  ∀ (pos : Pos) (pins : List (Addr × Obj)) (s : Shared) (σ : St) (H : Hp) (Q : List V → Hp → Prop), Inv X pins σ H s → t σ H Q → wpAny (model X.prog X.w) X.A (spliced (backTo pos (starEach es X.env))) (AP X pins σ Q) X.xe s
def PS (X : Cx) (st : Stmt) (t : TS) : Prop :=
  ∀ (pins : List (Addr × Obj)) (s : Shared) (σ : St) (H : Hp) (D : Ends), Inv X pins σ H s → t D σ H → wpAny (model X.prog X.w) X.A (exec st X.env) (SP X pins D) X.xe s
def PSs (X : Cx) (st : List Stmt) (t : TS) : Prop :=
  ∀ (pins : List (Addr × Obj)) (s : Shared) (σ : St) (H : Hp) (D : Ends), Inv X pins σ H s → t D σ H → wpAny (model X.prog X.w) X.A (execs st X.env) (SP X pins D) X.xe s
/-- weaken the end -/
theorem thn {α : Type} {t : Sem α} {Q Q' : α → Shared → Prop} {M : Model} {A : Around} {E : Value → Shared → Prop} {s : Shared} (h : wpAny M A t Q E s) (hQ : ∀ a s, Q a s → Q' a s) : wpAny M A t Q' E s := wpAny_mono h hQ fun _ _ x => x
end L2

namespace L2
open PySem PySem.Spec PyProof.Rows
section
variable {X : Cx}


/-! ### names and constants -/
def tVar (i : Nat) : TE := fun σ H Q => ∃ v, σ[i]? = some (some v) ∧ Q v H
def tC (v : V) : TE := fun _ H Q => Q v H
theorem pe_var {i : Nat} {x : Str} {pos : Pos} (hN : X.N[i]? = some x) (hv : Vis X.env.scope x) (hd : (x == ("__debug__" : Str)) = false := by decide) (hcd : (x == ("__classdict__" : Str)) = false := by decide) : PE X (.Name x pos) (tVar i) := by
  intro pins s σ H Q I h
  obtain ⟨v, e, h⟩ := h
  obtain ⟨m, hn, hl⟩ := I.loc
  obtain ⟨u, r, l⟩ := hl i x v hN e hv
  have fin : EP X pins σ Q u s := ⟨v, H, I, r, h⟩
  rcases l with ⟨hk, hm⟩ | ⟨hk, c, hc, hcell⟩
  · exact wpAny_Name (wpAny_loadName_local I.ok.kind hk hn hm fin) hd
  · rcases hk with hk | hk
    · exact wpAny_Name (wpAny_loadName_cell I.ok.kind hk hc hcell fin) hd
    · exact wpAny_Name (wpAny_loadName_free I.ok.kind hk hc hcell fin hcd) hd
theorem pe_int {i j pos} : PE X (.Constant (.int i) j pos) (tC (.int i)) := fun _ _ _ H _ I h => wpAny_Constant_int ⟨.int i, H, I.tok _, ⟨_, rfl⟩, h⟩
theorem pe_bl {b j pos} : PE X (.Constant (.bool b) j pos) (tC (.bl b)) := fun _ _ _ H _ I h => Constant_bool ⟨.bl b, H, I, rfl, h⟩

/-- a global name of the def -/
def Gl (X : Cx) (x : Str) : Prop := X.env.kindOf x = some .globalImplicit
theorem ld_glob {E : Value → Shared → Prop} {pins : List (Addr × Obj)} {s : Shared} {σ : St} {H : Hp} {x : Str} {u : Value} {pos : Pos} {Q : Value → Shared → Prop} (I : Inv X pins σ H s) (hg : Gl X x) (hm : X.mg x = some u) (h : Q u s)
    (hd : (x == ("__debug__" : Str)) = false := by decide) : wpAny (model X.prog X.w) X.A (eval (.Name x pos) X.env) Q E s :=
  Calls.Name_function_global I.ok.kind hg (Calls.loadGlobal_global (by rw [I.ok.glob]; exact I.mod.glob.keeps I.bk) hm h) hd
theorem ld_blt {E : Value → Shared → Prop} {pins : List (Addr × Obj)} {s : Shared} {σ : St} {H : Hp} {x : Str} {u : Value} {pos : Pos} {Q : Value → Shared → Prop} (I : Inv X pins σ H s) (hg : Gl X x) (hm : X.mg x = none) (hv : bootBuiltins x = some u) (h : Q u s)
    (hn : x ≠ "__name__" := by decide) (hd : (x == ("__debug__" : Str)) = false := by decide) : wpAny (model X.prog X.w) X.A (eval (.Name x pos) X.env) Q E s := by
  obtain ⟨mb, h1, h2⟩ := I.mod.blt
  exact Calls.Name_function_global I.ok.kind hg (Calls.loadGlobal_builtin (by rw [I.ok.glob]; exact I.mod.glob.keeps I.bk) hm (by rw [I.ok.blt]; exact h1.keeps I.bk) ((h2 x hn).trans hv) h) hd
/-- a module's constant, a class, a function, as a value -/
theorem pe_glob {x : Str} {v : V} {u : Value} {pos : Pos} (hg : Gl X x) (hm : X.mg x = some u) (r : RelV v u) (hd : (x == ("__debug__" : Str)) = false := by decide) : PE X (.Name x pos) (tC v) :=
  fun _ _ _ H _ I h => ld_glob I hg hm ⟨v, H, I, r, h⟩ hd

/-! ### arithmetic -/
variable {a b : Expr} {ta tb : TE} {pos : Pos}

/-! ### comparisons -/
/-- a comparison as a value, as a test -/
def tB (t : TE) : TT := fun σ H Q => t σ H fun x H1 => ∃ c, x = .bl c ∧ Q c H1
/-- an expression whose value is a bool, as a test -/
theorem pt_val {e : Expr} {t : TE} (h : PE X e t) (he : ∀ whole, isTrue e X.env whole = (do let v ← whole; standAt e.pos; holding [v] (truthy v)) := by intro _; rfl) : PT X e (tB t) := by
  intro pins s σ H Q I hw
  refine isTrue_plain (thn (h pins s σ H _ I hw) fun v s1 ⟨x, H1, I1, r1, q1⟩ => ?_) (he _)
  obtain ⟨d, rfl, q⟩ := q1
  cases r1
  exact wpAny_truthy_bool ⟨H1, I1, q⟩

/-! ### and, or, not -/
variable {tA tB' : TT} {rest : List Expr}
def tAnd (t u : TT) : TT := fun σ H Q => t σ H fun c H1 => if c = true then u σ H1 Q else Q false H1
def tOr (t u : TT) : TT := fun σ H Q => t σ H fun c H1 => if c = true then Q true H1 else u σ H1 Q
def tNot (t : TT) : TT := fun σ H Q => t σ H fun c H1 => Q (!c) H1
theorem pw_and1 (ha : PT X a tA) : PW X (.BoolOp .And [a] pos) tA := by
  intro wh pins s σ H Q I h
  refine isTrue_and (thn (ha pins s σ H Q I h) fun c s1 e => ?_)
  cases c with
  | true => exact isTrue_and_nil e
  | false => exact e
theorem pw_or1 (ha : PT X a tA) : PW X (.BoolOp .Or [a] pos) tA := by
  intro wh pins s σ H Q I h
  refine isTrue_or (thn (ha pins s σ H Q I h) fun c s1 e => ?_)
  cases c with
  | false => exact isTrue_or_nil e
  | true => exact e
theorem pw_and (ha : PT X a tA) (hb : PW X (.BoolOp .And (b :: rest) pos) tB') : PW X (.BoolOp .And (a :: b :: rest) pos) (tAnd tA tB') := by
  intro wh pins s σ H Q I h
  refine isTrue_and (thn (ha pins s σ H _ I h) fun c s1 ⟨H1, I1, q1⟩ => ?_)
  cases c with
  | true => exact hb wh pins s1 σ H1 Q I1 q1
  | false => exact ⟨H1, I1, q1⟩
theorem pw_or (ha : PT X a tA) (hb : PW X (.BoolOp .Or (b :: rest) pos) tB') : PW X (.BoolOp .Or (a :: b :: rest) pos) (tOr tA tB') := by
  intro wh pins s σ H Q I h
  refine isTrue_or (thn (ha pins s σ H _ I h) fun c s1 ⟨H1, I1, q1⟩ => ?_)
  cases c with
  | true => exact ⟨H1, I1, q1⟩
  | false => exact hb wh pins s1 σ H1 Q I1 q1
theorem pt_not (ha : PT X a tA) : PT X (.UnaryOp .Not a pos) (tNot tA) := by
  intro pins s σ H Q I h
  exact isTrue_not (ha pins s σ H (fun c H1 => Q (!c) H1) I h)
end
end L2

namespace L2
open PySem PySem.Spec PyProof.Rows

/-! ### a list, a tuple that is read: tracked, frozen, or an object of the module -/
def SqL (K : PySem.W.Frag) (H : Hp) (a : Addr) (xs : List V) : Prop :=
  Rd H a (.lst xs) ∨
    ∃ (o : Obj) (its : Array Value) (n : Nat), K.lookup a = some o ∧ o.cls = .type "list" ∧ o.dict = none ∧ o.data = .seq its n ∧ its.size ≤ sizeLine ∧ Vals xs its.toList
def SqT (K : PySem.W.Frag) (H : Hp) (a : Addr) (xs : List V) : Prop :=
  Rd H a (.tup xs) ∨
    ∃ (o : Obj) (its : Array Value) (n : Nat), K.lookup a = some o ∧ o.cls = .type "tuple" ∧ o.data = .seq its n ∧ its.size ≤ sizeLine ∧ Vals xs its.toList
def absV : Value → Option V
  | .none => some .non
  | .bool b => some (.bl b)
  | .int i _ => some (.int i)
  | .str x _ => some (.str x)
  | .bytes b _ => some (.byt b)
  | .float b _ => some (.flt b)
  | .ref a => some (.ref a)
  | .type n => some (.ty n)
  | _ => none
theorem RelV.abs {x : V} {u : Value} (r : RelV x u) : absV u = some x := by
  cases x with
  | non => cases r; rfl
  | bl _ => cases r; rfl
  | int _ => obtain ⟨t, rfl⟩ := r; rfl
  | str _ => obtain ⟨t, rfl⟩ := r; rfl
  | byt _ => obtain ⟨t, rfl⟩ := r; rfl
  | flt _ => obtain ⟨t, rfl⟩ := r; rfl
  | ref _ => cases r; rfl
  | ty _ => cases r; rfl
theorem RelV.inj {x y : V} {u : Value} (r : RelV x u) (q : RelV y u) : x = y := Option.some.inj (r.abs.symm.trans q.abs)
theorem Vals.inj : ∀ {xs ys : List V} {us : List Value}, Vals xs us → Vals ys us → xs = ys
  | _, _, _, .nil, .nil => rfl
  | _, _, _, .cons r t, .cons r' t' => by rw [r.inj r', Vals.inj t t']
section
variable {X : Cx} {pins : List (Addr × Obj)} {σ : St} {H : Hp} {s : Shared} {a : Addr} {xs ys : List V}
theorem SqL.of {K : PySem.W.Frag} (h : H a = some (.lst xs)) : SqL K H a xs := .inl (.inl h)
theorem SqT.of {K : PySem.W.Frag} (h : H a = some (.tup xs)) : SqT K H a xs := .inl (.inl h)
theorem Inv.list (I : Inv X pins σ H s) (h : SqL X.K H a xs) : ∃ its : List Value, Vals xs its ∧ PlainL s.heap a its.toArray ∧ xs.length ≤ sizeLine := by
  rcases h with h | ⟨o, its, n, hk, hc, hd, hs, hz, r⟩
  · obtain ⟨z, its, n, r, e⟩ := h.ok I.hok
    exact ⟨its, r, ⟨_, n, e, rfl, rfl, rfl⟩, z⟩
  · refine ⟨its.toList, r, ⟨o, n, I.kIn a o hk, hc, hd, by simpa using hs⟩, ?_⟩
    have e := r.length
    simp only [Array.length_toList] at e
    omega
theorem Inv.tuple (I : Inv X pins σ H s) (h : SqT X.K H a xs) : ∃ its : List Value, Vals xs its ∧ IsTup s.heap a its.toArray ∧ xs.length ≤ sizeLine := by
  rcases h with h | ⟨o, its, n, hk, hc, hs, hz, r⟩
  · obtain ⟨z, its, r, p⟩ := h.ok I.hok
    exact ⟨its, r, p, z⟩
  · refine ⟨its.toList, r, ⟨o, I.kIn a o hk, hc, n, by simpa using hs⟩, ?_⟩
    have e := r.length
    simp only [Array.length_toList] at e
    omega
theorem Inv.list_inj (I : Inv X pins σ H s) (h : SqL X.K H a xs) (h' : SqL X.K H a ys) : xs = ys := by
  obtain ⟨its, r, ⟨o, n, e, _, _, d⟩, _⟩ := I.list h
  obtain ⟨its', r', ⟨o', n', e', _, _, d'⟩, _⟩ := I.list h'
  rw [e] at e'; cases e'
  rw [d] at d'
  injection d' with d1 _
  have : its = its' := by simpa using congrArg Array.toList d1
  subst this
  exact r.inj r'
end

/-! ### another wish about exceptions -/
abbrev Cx.wish (X : Cx) (E : Value → Shared → Prop) : Cx := { X with xe := E }
/-- no exception leaves -/
abbrev Cx.nox (X : Cx) : Cx := X.wish fun _ _ => False
theorem Cx.Ok.wish {X : Cx} (ok : X.Ok) (E : Value → Shared → Prop) : (X.wish E).Ok :=
  ⟨ok.mod, ok.kind, ok.glob, ok.blt, ok.above, ok.inj, ok.has, ok.cab, ok.hd, ok.frames, ok.stk, ok.exf, ok.bs, ok.bsz, ok.noex, ok.exfs, ok.funs, ok.frf⟩
theorem Cx.Ok.unwish {X : Cx} {E : Value → Shared → Prop} (ok : (X.wish E).Ok) : X.Ok :=
  ⟨ok.mod, ok.kind, ok.glob, ok.blt, ok.above, ok.inj, ok.has, ok.cab, ok.hd, ok.frames, ok.stk, ok.exf, ok.bs, ok.bsz, ok.noex, ok.exfs, ok.funs, ok.frf⟩
section
variable {X : Cx} {pins : List (Addr × Obj)} {σ : St} {H : Hp} {s : Shared} {E : Value → Shared → Prop}
theorem Inv.wish (I : Inv X pins σ H s) (E : Value → Shared → Prop) : Inv (X.wish E) pins σ H s := ⟨I.ok.wish E, I.os, I.bare, I.base, I.loc, I.cell, I.free, I.freeC, I.pin, I.hok, I.len⟩
theorem Inv.unwish (I : Inv (X.wish E) pins σ H s) : Inv X pins σ H s := ⟨I.ok.unwish, I.os, I.bare, I.base, I.loc, I.cell, I.free, I.freeC, I.pin, I.hok, I.len⟩
theorem SP.unwish {D : Ends} {f : Flow} {s' : Shared} (h : SP (X.wish E) pins D f s') : SP X pins D f s' := by
  cases f with
  | next => obtain ⟨σ', H', I, q⟩ := h; exact ⟨σ', H', I.unwish, q⟩
  | brk => obtain ⟨σ', H', I, q⟩ := h; exact ⟨σ', H', I.unwish, q⟩
  | cont => obtain ⟨σ', H', I, q⟩ := h; exact ⟨σ', H', I.unwish, q⟩
  | ret u => obtain ⟨v, σ', H', I, r, q⟩ := h; exact ⟨v, σ', H', I.unwish, r, q⟩
theorem PE.nox {e : Expr} {t : TE} (h : PE X.nox e t) : PE X e t := fun pins s σ H Q I hw =>
  wpAny_mono (h pins s σ H Q (I.wish _) hw) (fun _ _ ⟨v, H', I', r, q⟩ => ⟨v, H', I'.unwish, r, q⟩) fun _ _ z => False.elim z
theorem PT.nox {e : Expr} {t : TT} (h : PT X.nox e t) : PT X e t := fun pins s σ H Q I hw =>
  wpAny_mono (h pins s σ H Q (I.wish _) hw) (fun _ _ ⟨H', I', q⟩ => ⟨H', I'.unwish, q⟩) fun _ _ z => False.elim z
theorem PSs.nox {st : List Stmt} {t : TS} (h : PSs X.nox st t) : PSs X st t := fun pins s σ H D I hw =>
  wpAny_mono (h pins s σ H D (I.wish _) hw) (fun _ _ q => q.unwish) fun _ _ z => False.elim z
end

/-! ### blocks and small statements -/
section
variable {X : Cx} {st : Stmt} {rest : List Stmt} {t u : TS} {e : Expr} {te : TE} {pos : Pos}
def tNext : TS := fun D σ H => D.nx σ H
def tSeq (t u : TS) : TS := fun D σ H => t { D with nx := u D } σ H
theorem pss_nil : PSs X [] tNext := fun _ _ σ H _ I h => wpAny_execs_nil ⟨σ, H, I, h⟩
theorem pss_cons (h1 : PS X st t) (h2 : PSs X rest u) : PSs X (st :: rest) (tSeq t u) := by
  intro pins s σ H D I h
  refine wpAny_execs_cons (thn (h1 pins s σ H { D with nx := u D } I h) fun f s1 q => ?_)
  cases f with
  | next =>
    obtain ⟨σ', H', I', q⟩ := q
    exact h2 pins s1 σ' H' D I' q
  | ret v => exact q
  | brk => exact q
  | cont => exact q
theorem pss_one (h1 : PS X st t) : PSs X [st] t := by
  intro pins s σ H D I h
  refine wpAny_execs_cons (thn (h1 pins s σ H D I h) fun f s1 q => ?_)
  cases f with
  | next => exact wpAny_execs_nil q
  | ret v => exact q
  | brk => exact q
  | cont => exact q
/-- in a def's body nothing is shown -/
theorem Inv.quiet {pins : List (Addr × Obj)} {σ : St} {H : Hp} {s : Shared} (I : Inv X pins σ H s) : interactive X.env = false := by simp [interactive, I.ok.kind]
/-- an expression whose value is dropped -/
def tDrop (te : TE) : TS := fun D σ H => te σ H fun _ H1 => D.nx σ H1
theorem ps_expr (he : PE X e te) (hs : swapsWith e none pos.line X.env = pure false := by rfl) : PS X (.Expr e pos) (tDrop te) := by
  intro pins s σ H D I h
  exact wpAny_Expr_any (thn (he pins s σ H _ I h) fun v s1 ⟨x, H1, I1, r1, q1⟩ => ⟨σ, H1, I1, q1⟩) I.quiet hs
def tRet (te : TE) : TS := fun D σ H => te σ H D.rt
theorem ps_ret (he : PE X e te) : PS X (.Return (some e) pos) (tRet te) := by
  intro pins s σ H D I h
  exact wpAny_Return_some (thn (he pins s σ H _ I h) fun v s1 ⟨x, H1, I1, r1, q1⟩ => ⟨x, σ, H1, I1, r1, q1⟩)
def tIfS (c : TT) (t u : TS) : TS := fun D σ H => c σ H fun b H1 => if b = true then t D σ H1 else u D σ H1
theorem ps_if {c : Expr} {a b : List Stmt} {tc : TT} (hc : PT X c tc) (ha : PSs X a t) (hb : PSs X b u) : PS X (.If c a b pos) (tIfS tc t u) := by
  intro pins s σ H D I h
  refine wpAny_If (thn (hc pins s σ H _ I h) fun d s1 ⟨H1, I1, q1⟩ => ?_)
  cases d with
  | true => exact ha pins s1 σ H1 D I1 q1
  | false => exact hb pins s1 σ H1 D I1 q1
end

/-! ### targets -/
abbrev TG := V → St → Hp → (St → Hp → Prop) → Prop
def PG (X : Cx) (target : Expr) (t : TG) : Prop :=
  ∀ (pins : List (Addr × Obj)) (s : Shared) (σ : St) (H : Hp) (v : V) (u : Value) (Q : St → Hp → Prop), Inv X pins σ H s → RelV v u → t v σ H Q →
    wpAny (model X.prog X.w) X.A (assign target X.env u) (fun _ s' => ∃ σ' H', Inv X pins σ' H' s' ∧ Q σ' H') X.xe s
/-- a op= b, by values -/
abbrev TIp := V → V → Hp → VK → Prop
def PIp (X : Cx) (op : Operator) (t : TIp) : Prop :=
  ∀ (pins : List (Addr × Obj)) (s : Shared) (σ : St) (H : Hp) (x y : V) (v u : Value) (Q : VK), Inv X pins σ H s → RelV x v → RelV y u → t x y H Q →
    wpAny (model X.prog X.w) X.A (inplaceOp op v u) (EP X pins σ Q) X.xe s
section
variable {X : Cx} {pos : Pos}
def gName (i : Nat) : TG := fun v σ H Q => Q (σ.set i (some v)) H
theorem pg_name {i : Nat} {x : Str} (hN : X.N.Nodup) (hi : X.N[i]? = some x) (hx : Loc X.env.scope x) (hf : X.fn x = true ∨ X.env.scope.names.lookup x = some .local := by first | exact .inl rfl | exact .inr rfl | assumption) : PG X (.Name x pos) (gName i) := by
  intro pins s σ H v u Q I r h
  exact wpAny_assign_Name (store_ok I hN hi hx r (fun s' I' => ⟨_, H, I', h⟩) hf)
/-- target = value -/
def tAsg (te : TE) (g : TG) : TS := fun D σ H => te σ H fun x H1 => g x σ H1 D.nx
/-- name = value -/
theorem ps_set {i : Nat} {x : Str} {e : Expr} {te : TE} {pos' : Pos} (hN : X.N.Nodup) (hi : X.N[i]? = some x) (hx : Loc X.env.scope x) (he : PE X e te) (hs : swapsWith e (some (.Name x pos')) pos.line X.env = pure false := by rfl) (hf : X.fn x = true ∨ X.env.scope.names.lookup x = some .local := by first | exact .inl rfl | exact .inr rfl | assumption) :
    PS X (.Assign [.Name x pos'] e pos) (tAsg te (gName i)) := by
  intro pins s σ H D I h
  refine wpAny_Assign_Name (thn (he pins s σ H _ I h) fun v s1 ⟨y, H1, I1, r1, q1⟩ => ?_) hs
  exact store_ok I1 hN hi hx r1 (fun s2 I2 => ⟨_, H1, I2, q1⟩) hf
end

/-! ### while -/
section
variable {X : Cx} {pos : Pos}
end

/-! ### what a loop or a comprehension walks -/
/-- at turn i: it yields x (the heap may grow), or it stops -/
structure It where
  go : Nat → Hp → Prop
  yld : Nat → Hp → V → Hp → Prop
  stop : Nat → Hp → Prop
/-- the iterator's own objects may turn: they are not the frame's, not pinned, younger than the entry (or a comprehension's own) -/
def FpOk (X : Cx) (pins : List (Addr × Obj)) (H : Hp) (b : Addr) : Prop :=
  H b = none ∧ b ≠ X.env.locals ∧ b ∉ X.fs ∧ (b ∈ X.ex ∨ X.s_0.heap.objs.size ≤ b) ∧ (∀ x c, X.env.cells.lookup x = some c → c ≠ b) ∧ ∀ p ∈ X.pn ++ pins, p.1 ≠ b
theorem Inv.fpOk {X : Cx} {pins : List (Addr × Obj)} {σ : St} {H H' : Hp} {s : Shared} {b : Addr} (I : Inv X pins σ H s) (hb : s.heap.objs.size ≤ b) (hn : H' b = none) : FpOk X pins H' b := by
  refine ⟨hn, Nat.ne_of_gt (Nat.lt_of_lt_of_le I.lt hb), I.nofs hb, .inr (Nat.le_trans I.sz hb), fun x c e z => ?_, fun p hp z => ?_⟩
  · obtain ⟨v, q⟩ := I.cell x c e
    exact absurd (Nat.lt_of_lt_of_le q.lt (by rw [z]; exact hb)) (Nat.lt_irrefl _)
  · exact absurd (Nat.lt_of_lt_of_le (Heap.lt_size (I.pin p hp).1) (by rw [z]; exact hb)) (Nat.lt_irrefl _)
structure Turn (P : Program) (w : World) (K : PySem.W.Frag) (tg : Expr) (J : It) (fp : List Addr) (it : Addr) (tn : Nat → Heap → Prop) : Prop where
  mem : it ∈ fp
  obj : ∀ i h, tn i h → ∀ b ∈ fp, ∃ o, h.get? b = some o ∧ ∀ v, o.data ≠ .cell v
  keep : ∀ i h h', tn i h → (∀ b ∈ fp, ∀ o, h.get? b = some o → h'.get? b = some o) → tn i h'
  item : ∀ (X : Cx), X.prog = P → X.w = w → X.K = K → X.calm = true → ∀ (i : Nat) (pins : List (Addr × Obj)) (s : Shared) (σ : St) (H : Hp) (E : Value → Shared → Prop), Inv X pins σ H s → (∀ b ∈ fp, FpOk X pins H b) → tn i s.heap → J.go i H →
    wpAny (model P w) X.A (pyNext (.ref it)) (fun r s1 => ∃ u, r = some u ∧
      wpAny (model P w) X.A (letOwnedTupleGo tg (.ref it) u) (fun _ s2 => ∃ x H', Inv X pins σ H' s2 ∧ RelV x u ∧ J.yld i H x H' ∧ tn (i + 1) s2.heap ∧ ∀ b ∈ fp, H' b = none) E s1) E s
  done : ∀ (X : Cx), X.prog = P → X.w = w → X.K = K → X.calm = true → ∀ (i : Nat) (pins : List (Addr × Obj)) (s : Shared) (σ : St) (H : Hp) (E : Value → Shared → Prop), Inv X pins σ H s → (∀ b ∈ fp, FpOk X pins H b) → tn i s.heap → J.stop i H →
    wpAny (model P w) X.A (pyNext (.ref it)) (fun r s1 => r = none ∧ Inv X pins σ H s1) E s
  self : ∀ (A : Around) (i : Nat) (s : Shared) (Q : Value → Shared → Prop) (E : Value → Shared → Prop), tn i s.heap → Q (.ref it) s → wpAny (model P w) A (pyIter (.ref it)) Q E s
abbrev TI := St → Hp → (It → Hp → Prop) → Prop
/-- an iterator has come -/
def PIE (X : Cx) (pins : List (Addr × Obj)) (σ : St) (tg : Expr) (R : It → Hp → Prop) (itv : Value) (s2 : Shared) : Prop :=
  ∃ (it : Addr) (fp : List Addr) (tn : Nat → Heap → Prop) (J : It) (H' : Hp), itv = .ref it ∧ Inv X pins σ H' s2 ∧ Turn X.prog X.w X.K tg J fp it tn ∧ tn 0 s2.heap ∧ (∀ b ∈ fp, FpOk X pins H' b) ∧ R J H'
def PI (X : Cx) (tg iter : Expr) (wi : TI) : Prop :=
  ∀ (pins : List (Addr × Obj)) (s : Shared) (σ : St) (H : Hp) (R : It → Hp → Prop), Inv X pins σ H s → wi σ H R →
    wpAny (model X.prog X.w) X.A (eval iter X.env) (fun v s1 => wpAny (model X.prog X.w) X.A (pyIter v) (PIE X pins σ tg R) X.xe s1) X.xe s

/-- the step ahead of the store is nothing for an iterator that keeps no tuple -/
theorem go_of {M : Model} {A : Around} {E : Value → Shared → Prop} {s : Shared} {tg : Expr} {it : Addr} {u : Value} {o : Obj} {n : String} {vs : Array Value} {Q : Unit → Shared → Prop} (ho : s.heap.get? it = some o) (hc : o.cls = .type n) (hd : o.data = .fields vs)
    (hn : ["enumerate", "zip", "dict_itemiterator", "dict_reverseitemiterator", "odict_iterator", "itertools.zip_longest", "itertools.pairwise"].contains n = false) (hQ : Q () s) : wpAny M A (letOwnedTupleGo tg (.ref it) u) Q E s := by
  unfold letOwnedTupleGo
  cases tg <;> first
    | exact wpAny_pure hQ
    | (cases u <;> first
        | exact wpAny_pure hQ
        | (refine wpAny_bind (wpAny_load ho ?_)
           rw [hc, hd]
           show wpAny M A (if (["enumerate", "zip", "dict_itemiterator", "dict_reverseitemiterator", "odict_iterator", "itertools.zip_longest", "itertools.pairwise"].contains n && vs[0]? == some (rawInt _)) = true then _ else _) Q E s
           rw [if_neg (by intro h; rw [hn, Bool.false_and] at h; cases h)]
           exact wpAny_pure hQ))

/-- the list at a, as it stands at each turn (a loop may append to it) -/
def Itl (K : PySem.W.Frag) (a : Addr) : It :=
  ⟨fun i H => ∃ xs x, SqL K H a xs ∧ xs[i]? = some x, fun i H x H' => H' = H ∧ ∀ xs, SqL K H a xs → xs[i]? = some x, fun i H => ∃ xs, SqL K H a xs ∧ xs.length ≤ i⟩
/-- lo, lo + 1, .. (n of them) -/
def Itr (lo : Int) (n : Nat) : It := ⟨fun i _ => i < n, fun i H x H' => H' = H ∧ x = .int (lo + i), fun i _ => n ≤ i⟩
theorem turn_list {P : Program} {w : World} {K : PySem.W.Frag} {tg : Expr} (a it : Addr) : Turn P w K tg (Itl K a) [it] it (fun i h => h.IsListIter it a i) where
  mem := by simp
  obj := fun i h st b hb => by
    have e : b = it := by simpa using hb
    subst e
    obtain ⟨o, e, c, d⟩ := st
    exact ⟨o, e, fun v z => by rw [d] at z; cases z⟩
  keep := fun i h h' st k => st.at fun o e => k it (by simp) o e
  item := by
    intro X hP hw hK hc i pins s σ H E I hf st hg
    subst hP hw hK
    obtain ⟨xs, x, hq, hx⟩ := hg
    obtain ⟨its, rv, p, hz⟩ := I.list hq
    obtain ⟨u, hu, ru⟩ := rv.get hx
    obtain ⟨f0, f1, f2, f3, f4, f5⟩ := hf it (by simp)
    refine wpAny_pyNext_list_item st p.isList (x := u) (by simpa using hu) fun h' st' sb => ?_
    have I1 : Inv X pins σ H { s with heap := h' } := I.turned (t' := s.toks) (fun b o hb e => (sb.2 b hb).trans e) f0 f1 f3 f4 f5
    obtain ⟨o, e, c, d⟩ := id st'
    exact ⟨u, rfl, go_of (s := { s with heap := h' }) e c d (by decide) ⟨x, H, I1, ru, ⟨rfl, fun ys hy => by rw [I.list_inj hy hq]; exact hx⟩, st', fun b hb => (hf b hb).1⟩⟩
  done := by
    intro X hP hw hK hc i pins s σ H E I hf st hg
    subst hP hw hK
    obtain ⟨xs, hq, hx⟩ := hg
    obtain ⟨its, rv, p, hz⟩ := I.list hq
    obtain ⟨f0, f1, f2, f3, f4, f5⟩ := hf it (by simp)
    have hl := rv.length
    exact wpAny_pyNext_list_end (I.ok.hd hc) st p.isList (by simp; omega) fun h' eb => ⟨rfl, I.turned (t' := s.toks) (fun b o hb e => eb b o hb e) f0 f1 f3 f4 f5⟩
  self := fun _ _ _ _ _ st h => wpAny_pyIter_listiter st h
theorem turn_range {P : Program} {w : World} {K : PySem.W.Frag} {tg : Expr} (it : Addr) (lo : Int) (n : Nat) : Turn P w K tg (Itr lo n) [it] it (fun i h => IsRangeIter h it (lo + (i : Nat) * 1) ((n : Int) - (i : Nat)) 1) where
  mem := by simp
  obj := fun i h st b hb => by
    have e : b = it := by simpa using hb
    subst e
    exact ⟨_, st, fun v z => by
      have z' : Data.fields _ = Data.cell v := z
      cases z'⟩
  keep := fun i h h' st k => k it (by simp) _ st
  item := by
    intro X hP hw hK hc i pins s σ H E I hf st hg
    subst hP hw hK
    obtain ⟨f0, f1, f2, f3, f4, f5⟩ := hf it (by simp)
    have W := Walks.range (prog := X.prog) (w := X.w) (I.ok.hd hc) it lo 1 n
    refine W.item i s _ _ hg st fun v h' tk hv st' kk => ?_
    obtain ⟨t, rfl⟩ := hv
    have I1 : Inv X pins σ H { s with heap := h', toks := tk } := I.turned (fun b o hb e => kk b o (by simpa using hb) e) f0 f1 f3 f4 f5
    refine ⟨_, rfl, go_of (s := { s with heap := h', toks := tk }) (n := "range_iterator") st' rfl rfl (by decide) ⟨.int (lo + i), H, I1, ⟨t, ?_⟩, ⟨rfl, rfl⟩, st', fun b hb => (hf b hb).1⟩⟩
    rw [Int.mul_one]
  done := by
    intro X hP hw hK hc i pins s σ H E I hf st hg
    subst hP hw hK
    obtain ⟨f0, f1, f2, f3, f4, f5⟩ := hf it (by simp)
    exact wpAny_pyNext_range_end (I.ok.hd hc) st (by have : n ≤ i := hg; omega) fun h' eb => ⟨rfl, I.turned (t' := s.toks) (fun b o hb e => eb b o hb e) f0 f1 f3 f4 f5⟩
  self := fun _ _ _ _ _ st h => wpAny_pyIter_rangeiter st h
end L2

namespace L2
open PySem PySem.Spec PyProof.Rows
section
variable {X : Cx} {tg : Expr}
def iList (K : PySem.W.Frag) (tl : TE) : TI := fun σ H R => tl σ H fun x H1 => ∃ a, x = .ref a ∧ (∃ xs, SqL K H1 a xs) ∧ R (Itl K a) H1
theorem pi_list {l : Expr} {tl : TE} (hl : PE X l tl) : PI X tg l (iList X.K tl) := by
  intro pins s σ H R I h
  refine thn (hl pins s σ H _ I h) fun v s1 ⟨x, H1, I1, r1, q1⟩ => ?_
  obtain ⟨a, e, ⟨xs, hq⟩, q⟩ := q1
  subst e
  cases r1
  obtain ⟨its, rv, p, hz⟩ := I1.list hq
  refine wpAny_pyIter_list p.isList ?_
  refine ⟨s1.heap.objs.size, [s1.heap.objs.size], _, _, H1, rfl, I1.kept (t' := s1.toks) fun b o e => Heap.get?_push_of_some _ e, turn_list a _, ⟨_, Heap.get?_push_size _ rfl, rfl, rfl⟩, fun b hb => ?_, q⟩
  have e : b = s1.heap.objs.size := by simpa using hb
  subst e
  exact I1.fpOk (Nat.le_refl _) (I1.hok.fresh (Nat.le_refl _))
/-- a range object just made, walked -/
theorem range_it {pins : List (Addr × Obj)} {σ : St} {H : Hp} {s : Shared} {R : It → Hp → Prop} {E : Value → Shared → Prop} {lo hi : Int} {t u v : Tok} {tk : Nat} (I : Inv X pins σ H s) (h1 : -(2 ^ 62) ≤ lo) (h2 : lo < 2 ^ 62) (h3 : -(2 ^ 62) ≤ hi) (h4 : hi < 2 ^ 62)
    (q : R (Itr lo (hi - lo).toNat) H) : wpAny (model X.prog X.w) X.A (pyIter (.ref s.heap.objs.size)) (PIE X pins σ tg R) E { s with heap := s.heap.push { cls := .type "range", data := .fields #[.int lo t, .int hi u, .int 1 v] }, toks := tk } := by
  refine wpAny_pyIter_range (IsRange.new ..) (small_one h1 h2 h3 h4) ?_
  have I1 : Inv X pins σ H { s with heap := s.heap.push { cls := .type "range", data := .fields #[.int lo t, .int hi u, .int 1 v] }, toks := tk } := I.kept fun b o e => Heap.get?_push_of_some _ e
  refine ⟨(s.heap.push { cls := .type "range", data := .fields #[.int lo t, .int hi u, .int 1 v] }).objs.size, [(s.heap.push { cls := .type "range", data := .fields #[.int lo t, .int hi u, .int 1 v] }).objs.size], _, _, H, rfl,
    I1.kept (t' := tk) fun b o e => Heap.get?_push_of_some _ e, turn_range _ lo (hi - lo).toNat, ?_, fun b hb => ?_, q⟩
  · have e1 : lo + ((0 : Nat) : Int) * 1 = lo := by simp
    have e2 : (((hi - lo).toNat : Nat) : Int) - ((0 : Nat) : Int) = Builtin.Range.rangeSize lo hi 1 := by rw [rangeSize_one]; split <;> omega
    show IsRangeIter _ _ (lo + ((0 : Nat) : Int) * 1) ((((hi - lo).toNat : Nat) : Int) - ((0 : Nat) : Int)) 1
    rw [e1, e2]
    exact Heap.get?_push_size _ rfl
  · have e : b = (s.heap.push { cls := .type "range", data := .fields #[.int lo t, .int hi u, .int 1 v] }).objs.size := by simpa using hb
    subst e
    exact I1.fpOk (Nat.le_refl _) (I1.hok.fresh (Nat.le_refl _))
def iRng1 (ta : TA) : TI := fun σ H R => ta σ H fun vs H1 => ∃ j : Int, vs = [.int j] ∧ -(2 ^ 62) ≤ j ∧ j < 2 ^ 62 ∧ R (Itr 0 j.toNat) H1
theorem pi_range1 {a : Expr} {ta : TA} {p pos : Pos} (hg : Gl X "range") (hm : X.mg "range" = none) (ha : PA X [a] ta) (hs : starEach [a] X.env = [(false, eval a X.env)] := by rfl) : PI X tg (.Call (.Name "range" p) [a] [] pos) (iRng1 ta) := by
  intro pins s σ H R I h
  refine Call_ (ld_blt I hg hm boot_range (PyProof.Rows.callWith_type1 (thn (ha pos pins s σ H _ I h) fun us s1 ⟨vs, H1, I1, r1, q1⟩ => ?_) hs rfl))
  obtain ⟨j, e, q1, q2, q⟩ := q1
  subst e
  cases r1 with
  | cons r rr =>
    cases rr
    obtain ⟨t, rfl⟩ := r
    exact call_range_1 (range_it I1 (by omega) (by omega) q1 q2 (by simpa using q))

/-! ### for -/
/-- W: the invariant by the turn and a measure; N: what the body is to reach -/
def tFor (wi : TI) (g : TG) (tb : TS) : TS := fun D σ H => wi σ H fun J H1 => ∃ W : Nat → Nat → St → Hp → Prop, (∃ m, W 0 m σ H1) ∧ ∀ i m σ H, W i m σ H →
  (J.stop i H ∧ D.nx σ H) ∨ (J.go i H ∧ ∃ N : St → Hp → Prop, (∀ σ' H', N σ' H' → ∃ m', m' < m ∧ W (i + 1) m' σ' H') ∧ ∀ x H', J.yld i H x H' → g x σ H' fun σ2 H2 => tb { D with nx := N, ct := N, bk := D.nx } σ2 H2)
/-- the records at fp as they stand -/
def pinsAt (fp : List Addr) (h : Heap) : List (Addr × Obj) := fp.filterMap fun b => (h.get? b).map fun o => (b, o)
theorem mem_pinsAt {fp : List Addr} {h : Heap} {b : Addr} {o : Obj} (hb : b ∈ fp) (e : h.get? b = some o) : (b, o) ∈ pinsAt fp h := List.mem_filterMap.mpr ⟨b, hb, by rw [e]; rfl⟩
theorem of_pinsAt {fp : List Addr} {h : Heap} {p : Addr × Obj} (hp : p ∈ pinsAt fp h) : p.1 ∈ fp ∧ h.get? p.1 = some p.2 := by
  obtain ⟨b, hb, e⟩ := List.mem_filterMap.mp hp
  cases q : h.get? b with
  | none => rw [q] at e; cases e
  | some o =>
    rw [q] at e
    have e' : (b, o) = p := Option.some.inj e
    subst e'
    exact ⟨hb, q⟩
theorem Inv.pinned {pins : List (Addr × Obj)} {σ : St} {H : Hp} {s : Shared} {fp : List Addr} (I : Inv X pins σ H s) (hf : ∀ b ∈ fp, FpOk X pins H b) (ho : ∀ b ∈ fp, ∃ o, s.heap.get? b = some o ∧ ∀ v, o.data ≠ .cell v) : Inv X (pins ++ pinsAt fp s.heap) σ H s :=
  I.pins_of fun p hp => (List.mem_append.mp hp).elim (fun z => I.pin p (List.mem_append_right _ z)) fun z => by
    obtain ⟨hb, e⟩ := of_pinsAt z
    obtain ⟨f0, f1, f2, _⟩ := hf p.1 hb
    obtain ⟨o, e', d⟩ := ho p.1 hb
    rw [e] at e'; cases e'
    exact ⟨e, f0, f1, f2, d⟩
theorem Inv.unpinned {pins pl : List (Addr × Obj)} {σ : St} {H : Hp} {s : Shared} (I : Inv X (pins ++ pl) σ H s) : Inv X pins σ H s := I.pins_of fun p hp => I.pin p (List.mem_append_right _ (List.mem_append_left _ hp))
theorem ps_for {iter : Expr} {body : List Stmt} {wi : TI} {g : TG} {tb : TS} {pos : Pos} (hp : PassesOwn (model X.prog X.w) X.A X.env X.xe) (hc : X.calm = true) (hi : PI X tg iter wi) (hg : PG X tg g) (hb : PSs X body tb)
    (hs : ∀ x, foldedSetIterable iter X.env x = pure x := by intro _; rfl) : PS X (.For tg iter body [] pos) (tFor wi g tb) := by
  intro pins s σ H D I h
  refine wpAny_For (thn (hi pins s σ H _ I h) fun v s1 h1 => thn h1 fun itv s2 h2 => ?_) hs
  obtain ⟨it, fp, tn, J, H2, e, I2, T, st2, f2, W, ⟨m0, w0⟩, turn⟩ := h2
  subst e
  -- what stays true of the iterator's objects through the loop
  have stat : ∀ {H' : Hp}, (∀ b ∈ fp, H' b = none) → ∀ b ∈ fp, FpOk X pins H' b := fun hn b hb => ⟨hn b hb, (f2 b hb).2⟩
  refine codeAny_forLoop_any (fun n s' => ∃ i σ' H', Inv X pins σ' H' s' ∧ tn i s'.heap ∧ (∀ b ∈ fp, H' b = none) ∧ W i n σ' H') ?_ m0 ⟨0, σ, H2, I2, st2, fun b hb => (f2 b hb).1, w0⟩
  rintro n s3 ⟨i, σ3, H3, I3, st3, fr3, w3⟩
  rcases turn i n σ3 H3 w3 with ⟨stop, qn⟩ | ⟨go, N, hN, step⟩
  · refine wpAny_passesOwn hp (thn (T.done X rfl rfl rfl hc i pins s3 σ3 H3 X.xe I3 (stat fr3) st3 stop) fun r s4 ⟨hr, I4⟩ => ?_)
    subst hr
    exact wpAny_execs_nil ⟨σ3, H3, I4, qn⟩
  · refine wpAny_passesOwn hp (thn (T.item X rfl rfl rfl hc i pins s3 σ3 H3 X.xe I3 (stat fr3) st3 go) fun r s4 ⟨u, hr, h4⟩ => ?_)
    subst hr
    refine wpAny_passesOwn hp (thn h4 fun _ s5 ⟨x, H5, I5, r5, y5, st5, fr5⟩ => ?_)
    have I5' := I5.pinned (stat fr5) (T.obj _ _ st5)
    refine wpAny_passesOwn hp (thn (hg _ s5 σ3 H5 x u _ I5' r5 (step x H5 y5)) fun _ s6 ⟨σ6, H6, I6, q6⟩ => ?_)
    refine wpAny_passesOwn hp (thn (hb _ s6 σ6 H6 _ I6 q6) fun f s7 q7 => ?_)
    have again : ∀ {σ7 : St} {H7 : Hp}, Inv X (pins ++ pinsAt fp s5.heap) σ7 H7 s7 → N σ7 H7 → ∃ m, m < n ∧ ∃ i σ' H', Inv X pins σ' H' s7 ∧ tn i s7.heap ∧ (∀ b ∈ fp, H' b = none) ∧ W i m σ' H' := fun {σ7 H7} I7 n7 => by
      obtain ⟨m', hm, w7⟩ := hN σ7 H7 n7
      refine ⟨m', hm, i + 1, σ7, H7, I7.unpinned, T.keep _ _ _ st5 fun b hb o e => (I7.pin (b, o) (List.mem_append_right _ (List.mem_append_right _ (mem_pinsAt hb e)))).1, fun b hb => ?_, w7⟩
      obtain ⟨o, e, d⟩ := T.obj _ _ st5 b hb
      exact (I7.pin (b, o) (List.mem_append_right _ (List.mem_append_right _ (mem_pinsAt hb e)))).2.1
    cases f with
    | next => obtain ⟨σ7, H7, I7, n7⟩ := q7; exact again I7 n7
    | cont => obtain ⟨σ7, H7, I7, n7⟩ := q7; exact again I7 n7
    | brk => obtain ⟨σ7, H7, I7, q7⟩ := q7; exact ⟨σ7, H7, I7.unpinned, q7⟩
    | ret v => obtain ⟨x7, σ7, H7, I7, r7, q7⟩ := q7; exact ⟨x7, σ7, H7, I7.unpinned, r7, q7⟩
end

/-! ### the forms one uses -/
/-- over a list that the body leaves as it is -/
theorem for_list {K : PySem.W.Frag} {a : Addr} {xs : List V} {g : TG} {tb : TS} {D : Ends} {σ : St} {H : Hp} (Pv : Nat → St → Hp → Prop) (h0 : Pv 0 σ H) (hl : ∀ i σ H, i ≤ xs.length → Pv i σ H → SqL K H a xs)
    (hs : ∀ i x σ H, xs[i]? = some x → Pv i σ H → g x σ H fun σ2 H2 => tb { D with nx := Pv (i + 1), ct := Pv (i + 1), bk := D.nx } σ2 H2) (hd : ∀ σ H, Pv xs.length σ H → D.nx σ H) :
    ∃ W : Nat → Nat → St → Hp → Prop, (∃ m, W 0 m σ H) ∧ ∀ i m σ H, W i m σ H →
      ((Itl K a).stop i H ∧ D.nx σ H) ∨ ((Itl K a).go i H ∧ ∃ N : St → Hp → Prop, (∀ σ' H', N σ' H' → ∃ m', m' < m ∧ W (i + 1) m' σ' H') ∧ ∀ x H', (Itl K a).yld i H x H' → g x σ H' fun σ2 H2 => tb { D with nx := N, ct := N, bk := D.nx } σ2 H2) := by
  refine ⟨fun i m σ H => m = xs.length - i ∧ i ≤ xs.length ∧ Pv i σ H, ⟨xs.length, by simp, Nat.zero_le _, h0⟩, ?_⟩
  rintro i m σ H ⟨rfl, hi, p⟩
  have q := hl i σ H hi p
  by_cases hlt : i < xs.length
  · refine .inr ⟨⟨xs, xs[i], q, by simp [hlt]⟩, Pv (i + 1), fun σ' H' p' => ⟨xs.length - (i + 1), by omega, rfl, hlt, p'⟩, fun x H' y => ?_⟩
    obtain ⟨e, y⟩ := y
    subst e
    exact hs i x σ _ (y xs q) p
  · have e : i = xs.length := by omega
    subst e
    exact .inl ⟨⟨xs, q, Nat.le_refl _⟩, hd σ H p⟩
theorem for_range {lo : Int} {n : Nat} {g : TG} {tb : TS} {D : Ends} {σ : St} {H : Hp} (Pv : Nat → St → Hp → Prop) (h0 : Pv 0 σ H)
    (hs : ∀ i σ H, i < n → Pv i σ H → g (.int (lo + i)) σ H fun σ2 H2 => tb { D with nx := Pv (i + 1), ct := Pv (i + 1), bk := D.nx } σ2 H2) (hd : ∀ σ H, Pv n σ H → D.nx σ H) :
    ∃ W : Nat → Nat → St → Hp → Prop, (∃ m, W 0 m σ H) ∧ ∀ i m σ H, W i m σ H →
      ((Itr lo n).stop i H ∧ D.nx σ H) ∨ ((Itr lo n).go i H ∧ ∃ N : St → Hp → Prop, (∀ σ' H', N σ' H' → ∃ m', m' < m ∧ W (i + 1) m' σ' H') ∧ ∀ x H', (Itr lo n).yld i H x H' → g x σ H' fun σ2 H2 => tb { D with nx := N, ct := N, bk := D.nx } σ2 H2) := by
  refine ⟨fun i m σ H => m = n - i ∧ i ≤ n ∧ Pv i σ H, ⟨n, by simp, Nat.zero_le _, h0⟩, ?_⟩
  rintro i m σ H ⟨rfl, hi, p⟩
  by_cases hlt : i < n
  · refine .inr ⟨hlt, Pv (i + 1), fun σ' H' p' => ⟨n - (i + 1), by omega, rfl, hlt, p'⟩, fun x H' y => ?_⟩
    obtain ⟨e, y⟩ := y
    subst e y
    exact hs i σ _ hlt p
  · have e : i = n := by omega
    subst e
    exact .inl ⟨Nat.le_refl _, hd σ H p⟩
end L2

namespace L2
open PySem PySem.Spec PyProof.Rows

abbrev R2 := V → V → Hp → VK → Prop
/-- a two-place operation on values: f is binaryOp op, inplaceOp op or compareOp op -/
def OpR (X : Cx) (f : Value → Value → Sem Value) (r : R2) : Prop :=
  ∀ (pins : List (Addr × Obj)) (s : Shared) (σ : St) (H : Hp) (x y : V) (v u : Value) (Q : VK), Inv X pins σ H s → RelV x v → RelV y u → r x y H Q →
    wpAny (model X.prog X.w) X.A (f v u) (EP X pins σ Q) X.xe s
/-- a call of a value that is known (a builtin, a type) with values -/
def CallR (X : Cx) (f : Value) (r : List V → Hp → VK → Prop) : Prop :=
  ∀ (pins : List (Addr × Obj)) (s : Shared) (σ : St) (H : Hp) (xs : List V) (us : List Value) (Q : VK), Inv X pins σ H s → Vals xs us → r xs H Q →
    wpAny (model X.prog X.w) X.A (call f us) (EP X pins σ Q) X.xe s

def tOp (r : R2) (ta tb : TE) : TE := fun σ H Q => ta σ H fun x H1 => tb σ H1 fun y H2 => r x y H2 Q
def rI0 (g : Int → Int → V) : R2 := fun x y H Q => ∃ i j, x = .int i ∧ y = .int j ∧ Q (g i j) H

section
variable {X : Cx} {a b c : Expr} {ta tb tc : TE} {pos : Pos}

theorem binT (ha : PE X a ta) (hb : PE X b tb) {pins : List (Addr × Obj)} {s : Shared} {σ : St} {H : Hp} {R : V → V → Hp → Prop} (I : Inv X pins σ H s)
    (h : ta σ H fun x H1 => tb σ H1 fun y H2 => R x y H2) {Q : Value → Shared → Prop} {f : Value → Value → Sem Value}
    (hf : ∀ v u s2 x y H2, Inv X pins σ H2 s2 → RelV x v → RelV y u → R x y H2 → wpAny (model X.prog X.w) X.A (f v u) Q X.xe s2) :
    wpAny (model X.prog X.w) X.A (eval a X.env) (fun v s₁ => wpAny (model X.prog X.w) X.A (eval b X.env) (fun u s₂ => wpAny (model X.prog X.w) X.A (f v u) Q X.xe s₂) X.xe s₁) X.xe s := by
  refine thn (ha pins s σ H _ I h) fun v s1 ⟨x, H1, I1, r1, q1⟩ => ?_
  refine thn (hb pins s1 σ H1 _ I1 q1) fun u s2 ⟨y, H2, I2, r2, q2⟩ => ?_
  exact hf v u s2 x y H2 I2 r1 r2 q2

theorem pe_op {op : Operator} {r : R2} (ho : OpR X (binaryOp op) r) (ha : PE X a ta) (hb : PE X b tb) : PE X (.BinOp a op b pos) (tOp r ta tb) := by
  intro pins s σ H Q I h
  exact wpAny_BinOp (binT ha hb I h fun v u s2 x y H2 I2 rx ry q => ho pins s2 σ H2 x y v u Q I2 rx ry q)

/-! ### ints -/
theorem opI0 {f : Value → Value → Sem Value} {g : Int → Int → Int}
    (rule : ∀ (i j : Int) (t u : Tok) (s : Shared) (Q : Value → Shared → Prop) (E : Value → Shared → Prop), Q (.int (g i j) s.toks) { s with toks := s.toks + 1 } → wpAny (model X.prog X.w) X.A (f (.int i t) (.int j u)) Q E s) :
    OpR X f (rI0 fun i j => .int (g i j)) := by
  intro pins s σ H x y v u Q I rx ry h
  obtain ⟨i, j, rfl, rfl, q⟩ := h
  obtain ⟨t, rfl⟩ := rx
  obtain ⟨t', rfl⟩ := ry
  exact rule i j t t' s _ _ ⟨.int (g i j), H, I.tok _, ⟨_, rfl⟩, q⟩
theorem opB0 {f : Value → Value → Sem Value} {g : Int → Int → Bool}
    (rule : ∀ (i j : Int) (t u : Tok) (s : Shared) (Q : Value → Shared → Prop) (E : Value → Shared → Prop), Q (.bool (g i j)) s → wpAny (model X.prog X.w) X.A (f (.int i t) (.int j u)) Q E s) :
    OpR X f (rI0 fun i j => .bl (g i j)) := by
  intro pins s σ H x y v u Q I rx ry h
  obtain ⟨i, j, rfl, rfl, q⟩ := h
  obtain ⟨t, rfl⟩ := rx
  obtain ⟨t', rfl⟩ := ry
  exact rule i j t t' s _ _ ⟨.bl (g i j), H, I, rfl, q⟩

def CMul (i j : Int) : Prop := (-(2 ^ 64) < i ∧ i < 2 ^ 64) ∨ (-(2 ^ 64) < j ∧ j < 2 ^ 64)
theorem CMul.ok {i j : Int} (h : CMul i j) : IntMulOk i j := by
  rcases h with ⟨h1, h2⟩ | ⟨h1, h2⟩
  · exact .of_left (intBits_le_64 h1 h2)
  · exact .of_right (intBits_le_64 h1 h2)

theorem op_sub : OpR X (binaryOp .Sub) (rI0 fun i j => .int (i - j)) := opI0 fun _ _ _ _ _ _ _ q => sub_int q



/-! ### bools among ints: n += (a < b) -/
end

/-! ### comparisons -/
/-- the scalars that == tells apart as data does -/
def scal : V → V → Bool
  | .non, .non => true | .non, .int _ => true | .int _, .non => true | .non, .bl _ => true | .bl _, .non => true | .non, .str _ => true | .str _, .non => true
  | .int _, .int _ => true | .bl _, .bl _ => true | .str _, .str _ => true | .byt _, .byt _ => true
  | .int _, .str _ => true | .str _, .int _ => true | .bl _, .str _ => true | .str _, .bl _ => true
  | _, _ => false
def rEq : R2 := fun x y H Q => scal x y = true ∧ Q (.bl (decide (x = y))) H
def rNe : R2 := fun x y H Q => scal x y = true ∧ Q (.bl (!decide (x = y))) H

theorem dec_int {i j : Int} : decide (V.int i = V.int j) = (i == j) := by
  rw [Bool.eq_iff_iff]
  simp
theorem dec_bl {i j : Bool} : decide (V.bl i = V.bl j) = (i == j) := by
  rw [Bool.eq_iff_iff]
  simp
theorem dec_str {i j : Str} : decide (V.str i = V.str j) = (i == j) := by
  rw [Bool.eq_iff_iff]
  simp
theorem dec_byt {i j : Array UInt8} : decide (V.byt i = V.byt j) = (i.toList == j.toList) := by
  rw [Bool.eq_iff_iff]
  cases i
  cases j
  simp

section
variable {X : Cx} {a b c : Expr} {ta tb tc : TE} {pos : Pos}
theorem fin_bl {pins : List (Addr × Obj)} {σ : St} {H : Hp} {s : Shared} {Q : VK} {k k' : Bool} (I : Inv X pins σ H s) (q : Q (.bl k) H) (e : k = k') : EP X pins σ Q (.bool k') s := by
  subst e
  exact ⟨.bl k, H, I, rfl, q⟩
theorem op_eq : OpR X (compareOp .Eq) rEq := by
  intro pins s σ H x y v u Q I rx ry h
  obtain ⟨hs, q⟩ := h
  cases x with
  | non =>
    cases rx
    cases y with
    | non => cases ry; exact PySem.EqNone.eq_none_none (fin_bl I q (by simp))
    | bl j => cases ry; exact PySem.EqNone.eq_none_bool (fin_bl I q (by simp))
    | int j => obtain ⟨t', rfl⟩ := ry; exact PySem.EqNone.eq_none_int (fin_bl I q (by simp))
    | str j => obtain ⟨t', rfl⟩ := ry; exact PySem.EqNone.eq_none_str (fin_bl I q (by simp))
    | _ => exact absurd (show false = true from hs) Bool.false_ne_true
  | bl i =>
    cases rx
    cases y with
    | non => cases ry; exact PySem.EqNone.eq_bool_none (fin_bl I q (by simp))
    | bl j => cases ry; exact eq_bool (fin_bl I q dec_bl)
    | str j => obtain ⟨t', rfl⟩ := ry; exact PySem.EqMixed.eq_bool_str (fin_bl I q (by simp))
    | _ => exact absurd (show false = true from hs) Bool.false_ne_true
  | int i =>
    obtain ⟨t, rfl⟩ := rx
    cases y with
    | non => cases ry; exact PySem.EqNone.eq_int_none (fin_bl I q (by simp))
    | int j => obtain ⟨t', rfl⟩ := ry; exact eq_int (fin_bl I q dec_int)
    | str j => obtain ⟨t', rfl⟩ := ry; exact PySem.EqMixed.eq_int_str (fin_bl I q (by simp))
    | _ => exact absurd (show false = true from hs) Bool.false_ne_true
  | str i =>
    obtain ⟨t, rfl⟩ := rx
    cases y with
    | non => cases ry; exact PySem.EqNone.eq_str_none (fin_bl I q (by simp))
    | bl j => cases ry; exact PySem.EqMixed.eq_str_bool (fin_bl I q (by simp))
    | int j => obtain ⟨t', rfl⟩ := ry; exact PySem.EqMixed.eq_str_int (fin_bl I q (by simp))
    | str j => obtain ⟨t', rfl⟩ := ry; exact eq_str (fin_bl I q dec_str)
    | _ => exact absurd (show false = true from hs) Bool.false_ne_true
  | byt i =>
    obtain ⟨t, rfl⟩ := rx
    cases y with
    | byt j => obtain ⟨t', rfl⟩ := ry; exact PySem.W.eq_bytes (fin_bl I q dec_byt)
    | _ => exact absurd (show false = true from hs) Bool.false_ne_true
  | _ => cases y <;> exact absurd (show false = true from hs) Bool.false_ne_true
theorem op_ne : OpR X (compareOp .NotEq) rNe := by
  intro pins s σ H x y v u Q I rx ry h
  obtain ⟨hs, q⟩ := h
  cases x with
  | non =>
    cases rx
    cases y with
    | non => cases ry; exact PySem.EqNone.ne_none_none (fin_bl I q (by simp))
    | bl j => cases ry; exact PySem.EqNone.ne_none_bool (fin_bl I q (by simp))
    | int j => obtain ⟨t', rfl⟩ := ry; exact PySem.EqNone.ne_none_int (fin_bl I q (by simp))
    | str j => obtain ⟨t', rfl⟩ := ry; exact PySem.EqNone.ne_none_str (fin_bl I q (by simp))
    | _ => exact absurd (show false = true from hs) Bool.false_ne_true
  | bl i =>
    cases rx
    cases y with
    | non => cases ry; exact PySem.EqNone.ne_bool_none (fin_bl I q (by simp))
    | bl j => cases ry; exact ne_bool (fin_bl I q (congrArg not dec_bl))
    | str j => obtain ⟨t', rfl⟩ := ry; exact PySem.EqMixed.ne_bool_str (fin_bl I q (by simp))
    | _ => exact absurd (show false = true from hs) Bool.false_ne_true
  | int i =>
    obtain ⟨t, rfl⟩ := rx
    cases y with
    | non => cases ry; exact PySem.EqNone.ne_int_none (fin_bl I q (by simp))
    | int j => obtain ⟨t', rfl⟩ := ry; exact ne_int (fin_bl I q (congrArg not dec_int))
    | str j => obtain ⟨t', rfl⟩ := ry; exact PySem.EqMixed.ne_int_str (fin_bl I q (by simp))
    | _ => exact absurd (show false = true from hs) Bool.false_ne_true
  | str i =>
    obtain ⟨t, rfl⟩ := rx
    cases y with
    | non => cases ry; exact PySem.EqNone.ne_str_none (fin_bl I q (by simp))
    | bl j => cases ry; exact PySem.EqMixed.ne_str_bool (fin_bl I q (by simp))
    | int j => obtain ⟨t', rfl⟩ := ry; exact PySem.EqMixed.ne_str_int (fin_bl I q (by simp))
    | str j => obtain ⟨t', rfl⟩ := ry; exact ne_str (fin_bl I q (congrArg not dec_str))
    | _ => exact absurd (show false = true from hs) Bool.false_ne_true
  | byt i =>
    obtain ⟨t, rfl⟩ := rx
    cases y with
    | byt j => obtain ⟨t', rfl⟩ := ry; exact PySem.W.ne_bytes (fin_bl I q (congrArg not dec_byt))
    | _ => exact absurd (show false = true from hs) Bool.false_ne_true
  | _ => cases y <;> exact absurd (show false = true from hs) Bool.false_ne_true

theorem op_lt : OpR X (compareOp .Lt) (rI0 fun i j => .bl (decide (i < j))) := opB0 fun _ _ _ _ _ _ _ q => lt_int q
theorem op_le : OpR X (compareOp .LtE) (rI0 fun i j => .bl (decide (i ≤ j))) := opB0 fun _ _ _ _ _ _ _ q => le_int q
theorem op_gt : OpR X (compareOp .Gt) (rI0 fun i j => .bl (decide (j < i))) := opB0 fun _ _ _ _ _ _ _ q => gt_int q
theorem op_ge : OpR X (compareOp .GtE) (rI0 fun i j => .bl (decide (j ≤ i))) := opB0 fun _ _ _ _ _ _ _ q => ge_int q



/-- two rules for one operation: by cases -/
theorem OpR.or {f : Value → Value → Sem Value} {r r' : R2} (h : OpR X f r) (h' : OpR X f r') : OpR X f (fun x y H Q => r x y H Q ∨ r' x y H Q) := by
  intro pins s σ H x y v u Q I rx ry q
  rcases q with q | q
  · exact h pins s σ H x y v u Q I rx ry q
  · exact h' pins s σ H x y v u Q I rx ry q

theorem nomark (b : Expr) {op : CmpOp} (h : op ≠ .In := by decide) (h2 : op ≠ .NotIn := by decide) : behindInMarks op b = false := by
  have e1 : (op == CmpOp.In) = false := by cases op <;> first | rfl | exact absurd rfl h
  have e2 : (op == CmpOp.NotIn) = false := by cases op <;> first | rfl | exact absurd rfl h2
  cases b <;> simp [behindInMarks, e1, e2]
/-- a reading of a value as a test -/
def tTest (t : TE) : TT := fun σ H Q => t σ H fun x H' => ∃ k, x = .bl k ∧ Q k H'
theorem pt_cmpR {op : CmpOp} {r : R2} (ho : OpR X (compareOp op) r) (ha : PE X a ta) (hb : PE X b tb) (hm : behindInMarks op b = false) : PT X (.Compare a [op] [b] pos) (tTest (tOp r ta tb)) := by
  intro pins s σ H Q I h
  refine wpAny_isTrue_Compare1 (thn (ha pins s σ H _ I h) fun v s1 ⟨x, H1, I1, r1, q1⟩ => thn (hb pins s1 σ H1 _ I1 q1) fun u s2 ⟨y, H2, I2, r2, q2⟩ =>
    thn (ho pins s2 σ H2 x y v u _ I2 r1 r2 q2) fun c s3 ⟨z, H3, I3, r3, k, e, q3⟩ => ?_) hm
  subst e
  cases r3
  exact wpAny_truthy_bool ⟨H3, I3, q3⟩

/-! ### truth -/
theorem line63 : (sizeLine : Nat) < 2 ^ 63 := by rw [sizeLine_eq]; decide

/-! ### strs and bytes -/


/-! ### scalar builtins, by CallR -/
theorem vals1 {x : V} {us : List Value} (r : Vals [x] us) : ∃ u, us = [u] ∧ RelV x u := by
  cases r with
  | cons r1 r2 => cases r2; exact ⟨_, rfl, r1⟩
end
end L2

namespace L2
open PySem PySem.Spec PyProof.Rows

/-! ### an instance, its attributes a map -/



section
variable {prog : Program} {w : World} {A : Around} {E : Value → Shared → Prop} {s : Shared} {K : PySem.W.Frag} {x dx C f : Addr} {mA : Str → Option Value} {name : Str} {v : Value}





end

/-! ### the attributes as a list of pairs -/


section
variable {P : Program} {w : World} {H H' : Hp} {h h' : Heap} {a C dx : Addr} {fs fs' : List (Str × V)}
end

/-! ### what of the text a class must have -/
structure Cls (K : PySem.W.Frag) (C : Addr) : Prop where
  pg : PySem.W.plainGet K C Str.empty = true
  hd : PySem.W.hasDictIn K C = true
  po : PySem.W.plainOver K C = true
  sa : PySem.W.findIn K (.ref C) "__setattr__" = some (some (.builtin "object.__setattr__"))
theorem Cls.get {K : PySem.W.Frag} {C : Addr} (c : Cls K C) (f : Str) : PySem.W.plainGet K C f = true := c.pg

section
variable {X : Cx} {pins : List (Addr × Obj)} {σ : St} {H : Hp} {s : Shared} {a C dx : Addr} {fs : List (Str × V)} {f : Str} {v : V} {A : Around} {E : Value → Shared → Prop}





/-- a new instance, tracked, without attributes -/
theorem Inv.made (I : Inv X pins σ H s) : Inv X pins σ (upd (upd H s.heap.objs.size (.own (s.heap.objs.size + 1))) (s.heap.objs.size + 1) (.ins C s.heap.objs.size []))
    { s with heap := (s.heap.push PySem.W.emptyDict).push (PySem.W.instObj C s.heap.objs.size) } := by
  have e1 : (s.heap.push PySem.W.emptyDict).get? s.heap.objs.size = some PySem.W.emptyDict := Heap.get?_push_size s.heap rfl
  have e2 : ((s.heap.push PySem.W.emptyDict).push (PySem.W.instObj C s.heap.objs.size)).get? (s.heap.objs.size + 1) = some (PySem.W.instObj C s.heap.objs.size) := by
    have := Heap.get?_push_size (s.heap.push PySem.W.emptyDict) (o := PySem.W.instObj C s.heap.objs.size) rfl
    rwa [Heap.size_push] at this
  have e3 : (s.heap.push PySem.W.emptyDict).Ns s.heap.objs.size (fun _ => none) := ⟨PySem.W.emptyDict, #[], _, e1, rfl, (fun e he => absurd he (by simp)), fun _ => rfl⟩
  have I1 := I.laid (a := s.heap.objs.size) (o := .own (s.heap.objs.size + 1)) (h' := s.heap.push PySem.W.emptyDict) (t' := s.toks) (fun b u q => Heap.get?_push_of_some _ q) (Nat.le_refl _) ⟨_, e1⟩
  refine I1.laid (a := s.heap.objs.size + 1) (o := .ins C s.heap.objs.size []) (t' := s.toks) (fun b u q => Heap.get?_push_of_some _ q) (Nat.le_of_eq (Heap.size_push _ _)) ?_
  have ne : s.heap.objs.size ≠ s.heap.objs.size + 1 := Nat.ne_of_lt (Nat.lt_succ_self _)
  refine ⟨by rw [upd_ne ne, upd_same], Nat.zero_le _, ne, e2, fun _ => none, (Heap.Ns1.of_empty e3).at fun o q => Heap.get?_push_of_some _ q, fun _ => True.intro, fun y hy => absurd rfl hy⟩

end

/-! ### readings and rules -/

section
variable {X : Cx} {o e value : Expr} {f : Str} {pos pos' tpos : Pos} {ta tv : TE}

end

/-! ### isinstance -/
section
variable {X : Cx} {pins : List (Addr × Obj)} {σ : St} {H : Hp} {s : Shared} {A : Around} {E : Value → Shared → Prop} {Q : Value → Shared → Prop} {c : Value} {b : Bool}
end
end L2

namespace L2
open PySem PySem.Spec PyProof.Rows

/-! ### room -/
structure Room (k : Nat) (A : Around) : Prop where
  hd : A.handled = none
  dp : A.depth + 3 * k + 5 < recursionLimit
  un : A.units + 16 * k + 200 < cLine
theorem Room.mono {j k : Nat} {A : Around} (r : Room k A) (h : j ≤ k) : Room j A := ⟨r.hd, by have := r.dp; omega, by have := r.un; omega⟩
theorem Room.deeper {k : Nat} {A : Around} (r : Room (k + 1) A) (env : Env) : Room k (A.deeper env) :=
  ⟨r.hd, by have := r.dp; show A.depth + 1 + 3 * k + 5 < _; omega, by have := r.un; show A.units + 3 + 16 * k + 200 < _; omega⟩
theorem Room.depth {k : Nat} {A : Around} (r : Room k A) : A.depth < recursionLimit := by have := r.dp; omega
theorem Room.units {k : Nat} {A : Around} (r : Room k A) : A.units + 64 < cLine := by have := r.un; omega

/-! ### argument lists and displays -/
def tNil : TA := fun _ H Q => Q [] H
def tCons (ta : TE) (tr : TA) : TA := fun σ H Q => ta σ H fun x H1 => tr σ H1 fun xs H2 => Q (x :: xs) H2
section
variable {X : Cx} {e : Expr} {es : List Expr} {te : TE} {t : TA} {pos : Pos}
theorem pa_nil : PA X [] tNil := fun _ _ _ _ H Q I h => Calls.spliced_nil ⟨[], H, I, .nil, h⟩
theorem pa_cons (ha : PE X e te) (hr : PA X es t) (hs : starEach (e :: es) X.env = (false, eval e X.env) :: starEach es X.env := by rfl) : PA X (e :: es) (tCons te t) := by
  intro pos pins s σ H Q I h
  rw [hs]
  show wpAny _ _ (spliced ((false, eval e X.env) :: backTo pos (starEach es X.env))) _ _ s
  refine Calls.spliced_cons (thn (ha pins s σ H _ I h) fun u s1 ⟨x, H1, I1, r1, q1⟩ => ?_)
  exact thn (hr pos pins s1 σ H1 _ I1 q1) fun us s2 ⟨xs, H2, I2, r2, q2⟩ => ⟨x :: xs, H2, I2, .cons r1 r2, q2⟩

def tLst (t : TA) : TE := fun σ H Q => t σ H fun xs H1 => xs.length ≤ sizeLine ∧ ∀ p, H1 p = none → Q (.ref p) (upd H1 p (.lst xs))
theorem pe_lst (h : PA X es t) : PE X (.List es pos) (tLst t) := by
  intro pins s σ H Q I hq
  refine wpAny_List_spliced (thn (h pos pins s σ H _ I hq) fun us s1 ⟨xs, H1, I1, r, z, q⟩ => ⟨by rw [← r.length]; exact z, ?_⟩)
  have hf : H1 s1.heap.objs.size = none := I1.hok.fresh (Nat.le_refl _)
  refine ⟨.ref s1.heap.objs.size, upd H1 s1.heap.objs.size (.lst xs), I1.laid (t' := s1.toks) (fun b u e => Heap.get?_push_of_some _ e) (Nat.le_refl _) ?_, rfl, q _ hf⟩
  exact ⟨z, us, 0, r, Heap.get?_push_size _ rfl⟩
end

/-! ### what a def promises -/
/-- a def's promise: the bound arguments in the parameters' order, the heap, the wanted end, the wanted exception -/
abbrev Sp := List V → Hp → VK → XK → Prop
/-- how an exception lies behind a call (file 08 gives it): the callers' frames, abstract heap and state ahead of the call, the wish, the exception, the state -/
abbrev CXT := List Env → Hp → Shared → XK → Value → Shared → Prop

/-- the state at a call -/
structure Env0 (P : Program) (w : World) (K : PySem.W.Frag) (mg : Str → Option Value) (base : Heap) (A : Around) (outer : List Env) (s : Shared) (H : Hp) : Prop where
  frames : A.frames = some outer
  mod : Mod K mg base
  bs : ∀ b o, base.get? b = some o → s.heap.get? b = some o ∧ H b = none
  bsz : base.objs.size ≤ s.heap.objs.size
  funs : s.heap.FunFrames base outer
  frf : ∀ b ∈ frs outer, H b = none
  hok : HOk P w H s.heap
  bare : AllBare s.gens
/-- a call's end -/
def CE (outer : List Env) (P : Program) (w : World) (H : Hp) (s : Shared) (Q : VK) (u : Value) (s' : Shared) : Prop :=
  ∃ v H', s'.os = s.os ∧ AllBare s'.gens ∧ Un (frs outer) [] H H' s.heap s'.heap ∧ HOk P w H' s'.heap ∧ RelV v u ∧ Q v H'
def CR (CX : CXT) (outer : List Env) (P : Program) (w : World) (H : Hp) (s : Shared) (Q : VK) (E : XK) (r : Result) (s' : Shared) : Prop :=
  match r with
  | .ok (.ret u) => CE outer P w H s Q u s'
  | .ok _ => False
  | .error e => CX outer H s E e s'
structure FnOk (P : Program) (w : World) (K : PySem.W.Frag) (mg : Str → Option Value) (base : Heap) (CX : CXT) (k : Nat) (f : Addr) (fd : FuncData) (ps : List Str) (sp : Sp) : Prop where
  len : ∀ vs H Q E, sp vs H Q E → vs.length = ps.length
  run : ∀ (A : Around) (outer : List Env) (s : Shared) (H : Hp) (args : Args) (us : List Value) (vs : List V) (Q : VK) (E : XK), Room k A → Env0 P w K mg base A outer s H → BindsTo s fd args (ps.zip us) → Vals vs us → sp vs H Q E →
    codeAny (model P w) A (.call (.ref f) args) (CR CX outer P w H s Q E) s
theorem FnOk.mono {P : Program} {w : World} {K : PySem.W.Frag} {mg : Str → Option Value} {base : Heap} {CX : CXT} {j k : Nat} {f : Addr} {fd : FuncData} {ps : List Str} {sp : Sp} (F : FnOk P w K mg base CX j f fd ps sp) (h : j ≤ k) :
    FnOk P w K mg base CX k f fd ps sp := ⟨F.len, fun A outer s H args us vs Q E hr => F.run A outer s H args us vs Q E (hr.mono h)⟩


section
variable {X : Cx} {pins : List (Addr × Obj)} {σ : St} {H : Hp} {s s' : Shared}
/-- from a body: what a callee wants -/
theorem Inv.env0 (I : Inv X pins σ H s) : Env0 X.prog X.w X.K X.mg X.base X.A X.stack s H :=
  ⟨I.ok.frames, I.ok.mod, I.bs, Nat.le_trans I.ok.bsz I.sz, I.stack, I.stkFree, I.hok, I.bare⟩
/-- behind a call -/
theorem Inv.after {Q : VK} {u : Value} (I : Inv X pins σ H s) (h : CE X.stack X.prog X.w H s Q u s') : EP X pins σ Q u s' := by
  obtain ⟨v, H', os, bare, un, hok, r, q⟩ := h
  obtain ⟨hh, g, d, t, os'⟩ := s'
  obtain rfl : os' = s.os := os
  exact ⟨v, H', I.call (h' := hh) (g' := g) (d' := d) (t' := t) (ch := []) un hok bare (fun b z => absurd z (by simp)), r, q⟩
end

/-! ### calls -/
/-- f(..): the written arguments, then the defaults dvs; E: what is wanted of an exception -/
def tCall (sp : Sp) (dvs : List V) (E : XK) (t : TA) : TE := fun σ H Q => t σ H fun vs H1 => sp (vs ++ dvs) H1 Q E

/-- how the parameters are bound: us the positional arguments, kw the keywords' values by name, ds the defaults that fill up -/
def Binds (K : PySem.W.Frag) (fd : FuncData) (ps : List Str) (ds : List Value) : Prop :=
  ∀ (s : Shared) (us : List Value), K.In s.heap → (us ++ ds).length = ps.length → BindsTo s fd ⟨us, []⟩ (ps.zip (us ++ ds))
/-- every parameter is given -/
theorem Binds.all {K : PySem.W.Frag} {fd : FuncData} {ps : List Str} (h : ∀ us : List Value, us.length = ps.length → bindArgs fd ⟨us, []⟩ = pure (ps.zip us)) : Binds K fd ps [] := fun s us _ hl => by
  rw [List.append_nil] at hl ⊢
  exact .of_eq (h us hl)

/-- an exception of a callee reaches what this body wants of exceptions -/
def Passes (CX : CXT) (X : Cx) (E : XK) : Prop := ∀ (pins : List (Addr × Obj)) (σ : St) (H : Hp) (s : Shared) (e : Value) (s' : Shared), Inv X pins σ H s → CX X.stack H s E e s' → X.xe e s'

section
variable {X : Cx} {CX : CXT} {k : Nat} {f C : Addr} {fd : FuncData} {ps : List Str} {sp : Sp} {dvs : List V} {ds : List Value} {E : XK} {x m : Str} {p pos apos : Pos} {e o : Expr} {es : List Expr} {ta : TE} {t : TA}

/-- the callee runs -/
theorem run_fn {pins : List (Addr × Obj)} {σ : St} {H : Hp} {s : Shared} {Q : VK} {us : List Value} {vs : List V} (F : FnOk X.prog X.w X.K X.mg X.base CX k f fd ps sp) (hr : Room k X.A) (hb : Binds X.K fd ps ds) (hd : Vals dvs ds) (hx : Passes CX X E)
    (I : Inv X pins σ H s) (r : Vals vs us) (h : sp (vs ++ dvs) H Q E) : wpAny (model X.prog X.w) X.A (call (.ref f) us) (EP X pins σ Q) X.xe s := by
  have r2 : Vals (vs ++ dvs) (us ++ ds) := r.append hd
  have hl : (us ++ ds).length = ps.length := by rw [← r2.length]; exact F.len _ _ _ _ h
  refine wpAny_call (codeAny_mono (F.run X.A X.stack s H ⟨us, []⟩ (us ++ ds) (vs ++ dvs) Q E hr I.env0 (hb s us I.kIn hl) r2 h) fun r s' hq => ?_)
  cases r with
  | error e => exact hx pins σ H s e s' I hq
  | ok fl =>
    cases fl with
    | ret u => exact I.after hq
    | next => exact False.elim hq
    | brk => exact False.elim hq
    | cont => exact False.elim hq

theorem pe_call (F : FnOk X.prog X.w X.K X.mg X.base CX k f fd ps sp) (hr : Room k X.A) (hg : Gl X x) (hm : X.mg x = some (.ref f)) (hk : PySem.W.keepIn X.K (.ref f) = true) (hb : Binds X.K fd ps ds) (hd : Vals dvs ds) (hx : Passes CX X E)
    (ha : PA X (e :: es) t) (hdb : (x == ("__debug__" : Str)) = false := by decide) (he : starEach (e :: es) X.env = (false, eval e X.env) :: starEach es X.env := by rfl) (hpl : (backTo pos (starEach es X.env)).any (·.1) = false := by rfl) :
    PE X (.Call (.Name x p) (e :: es) [] pos) (tCall sp dvs E t) := by
  intro pins s σ H Q I h
  refine wpAny_Call_Name_kw (ld_glob I hg hm ?_ hdb)
  refine PySem.W.callWith_K (h₀ := X.base) I.ok.mod.kin hk (thn (ha pos pins s σ H _ I h) fun us s1 ⟨vs, H1, I1, r, q⟩ => ⟨I1.kIn, ?_⟩) he hpl
  exact run_fn F hr hb hd hx I1 r q



end

/-! ### keywords -/
section
variable {X : Cx} {CX : CXT} {k : Nat} {f C : Addr} {fd : FuncData} {ps ks : List Str} {sp : Sp} {E : XK} {x m : Str} {p pos apos kpos : Pos} {e o : Expr} {es : List Expr} {kws : List Keyword} {te ta : TE} {t tk : TA} {nm : Option Str}

variable {g : List Value → List Value → List Value} {gV : List V → List V → List V}
end

/-! ### a def's body keeps its promise -/
/-- names: the parameters first -/
structure FnScope (N P : List Str) (sc : Scope) : Prop where
  kind : sc.kind = .function
  co : sc.isCoroutine = false
  gen : sc.isGenerator = false
  nd : N.Nodup
  pre : N.take P.length = P
  par : ∀ x ∈ P, sc.names.lookup x = some .local ∨ sc.names.lookup x = some .cell
  nofree : ∀ y ∈ sc.names, y.2 ≠ .free

theorem bindL_out {kindOf : Str → Option NameKind} {x : Str} : ∀ {binds : List (Str × Value)} {m : Str → Option Value}, (∀ v, (x, v) ∉ binds) → bindL kindOf binds m x = m x
  | [], _, _ => rfl
  | (n, v) :: r, m, h => by
    unfold bindL
    rw [bindL_out fun w hw => h w (List.mem_cons_of_mem _ hw)]
    split
    · have : x ≠ n := by rintro rfl; exact h v List.mem_cons_self
      simp [this]
    · rfl
theorem bindC_out {kindOf : Str → Option NameKind} {x : Str} : ∀ {binds : List (Str × Value)} {m : Str → Option Value}, (∀ v, (x, v) ∉ binds) → bindC kindOf binds m x = m x
  | [], _, _ => rfl
  | (n, v) :: r, m, h => by
    unfold bindC
    rw [bindC_out fun w hw => h w (List.mem_cons_of_mem _ hw)]
    split
    · rfl
    · have : x ≠ n := by rintro rfl; exact h v List.mem_cons_self
      simp [this]
theorem bindL_get {kindOf : Str → Option NameKind} {x : Str} {v : Value} : ∀ {P : List Str} {vs : List Value} {i : Nat} {m : Str → Option Value}, P.Nodup → P[i]? = some x → vs[i]? = some v → kindOf x = some .local →
    bindL kindOf (P.zip vs) m x = some v
  | [], _, _, _, _, h, _, _ => by simp at h
  | _ :: _, [], _, _, _, _, h, _ => by simp at h
  | p :: P, w :: vs, 0, m, nd, h1, h2, hk => by
    simp at h1 h2; subst h1; subst h2
    show bindL kindOf ((p, w) :: P.zip vs) m p = _
    unfold bindL
    rw [bindL_out fun v hv => (List.nodup_cons.mp nd).1 (List.of_mem_zip hv).1, if_pos hk]
    simp
  | p :: P, w :: vs, i + 1, m, nd, h1, h2, hk => by
    show bindL kindOf ((p, w) :: P.zip vs) m x = _
    unfold bindL
    exact bindL_get (i := i) (List.nodup_cons.mp nd).2 (by simpa using h1) (by simpa using h2) hk
theorem bindC_get {kindOf : Str → Option NameKind} {x : Str} {v : Value} : ∀ {P : List Str} {vs : List Value} {i : Nat} {m : Str → Option Value}, P.Nodup → P[i]? = some x → vs[i]? = some v → kindOf x ≠ some .local →
    bindC kindOf (P.zip vs) m x = some v
  | [], _, _, _, _, h, _, _ => by simp at h
  | _ :: _, [], _, _, _, _, h, _ => by simp at h
  | p :: P, w :: vs, 0, m, nd, h1, h2, hk => by
    simp at h1 h2; subst h1; subst h2
    show bindC kindOf ((p, w) :: P.zip vs) m p = _
    unfold bindC
    rw [bindC_out fun v hv => (List.nodup_cons.mp nd).1 (List.of_mem_zip hv).1, if_neg hk]
    simp
  | p :: P, w :: vs, i + 1, m, nd, h1, h2, hk => by
    show bindC kindOf ((p, w) :: P.zip vs) m x = _
    unfold bindC
    exact bindC_get (i := i) (List.nodup_cons.mp nd).2 (by simpa using h1) (by simpa using h2) hk

/-- the names' values at the entry -/
def start (N : List Str) (vs : List V) : St := vs.map some ++ List.replicate (N.length - vs.length) none

/-- the context of a def's body, at its entry; an exception leaves the frame, then lies as CX says -/
def cxOf (CX : CXT) (P : Program) (w : World) (K : PySem.W.Frag) (mg : Str → Option Value) (base : Heap) (N : List Str) (qual : Str) (scope : Scope) (f : Addr) (cd : Value) (A : Around) (outer : List Env) (s : Shared) (H : Hp) (E : XK) : Cx where
  prog := P
  w := w
  K := K
  mg := mg
  base := base
  A := A.deeper (envOfC qual scope s.heap.objs.size f cd)
  N := N
  s_0 := s
  H_0 := H
  env := envOfC qual scope s.heap.objs.size f cd
  outer := outer
  stack := envOfC qual scope s.heap.objs.size f cd :: outer
  ex := []
  calm := true
  fn := fun _ => true
  pn := []
  xe := fun e s' => wpAny (model P w) (A.deeper (envOfC qual scope s.heap.objs.size f cd)) (leaving (envOfC qual scope s.heap.objs.size f cd) e) (fun _ s'' => CX outer H s E e s'') (fun e' s'' => CX outer H s E e' s'') s'

theorem cell_has {sc : Scope} {n : Nat} {x : Str} (h : sc.names.lookup x = some .cell) : ∃ c, (cellsFrom n sc.names []).lookup x = some c := by
  have q := PySem.W.cellsFrom_some sc.names n [] (.inl h)
  exact Option.isSome_iff_exists.mp q

theorem inv_start {CX : CXT} {P : Program} {w : World} {K : PySem.W.Frag} {mg : Str → Option Value} {base : Heap} {N ps : List Str} {qual : Str} {scope : Scope} {f : Addr} {cd : Value} {A : Around} {outer : List Env} {s s1 : Shared} {H : Hp} {E : XK} {us : List Value} {vs : List V}
    (S : FnScope N ps scope) (hd : A.handled = none) (e0 : Env0 P w K mg base A outer s H) (hl : vs.length = ps.length) (r : Vals vs us)
    (x : InCallC s s.heap.objs.size (bindL (envOfC qual scope s.heap.objs.size f cd).kindOf (ps.zip us) fun _ => none) (cellsFrom (s.heap.objs.size + 1) scope.names []) (bindC (envOfC qual scope s.heap.objs.size f cd).kindOf (ps.zip us) fun _ => none) s1) :
    Inv (cxOf CX P w K mg base N qual scope f cd A outer s H E) [] (start N vs) H s1 := by
  have hpl : ps.length ≤ N.length := by have := congrArg List.length S.pre; rw [List.length_take] at this; omega
  obtain ⟨h1, tk, rfl, hk⟩ := x.done
  have noA : ∀ b : Addr, b ∉ (cxOf CX P w K mg base N qual scope f cd A outer s H E).ex := fun b z => absurd (show b ∈ ([] : List Addr) from z) (by simp)
  refine ⟨⟨e0.mod, S.kind, rfl, rfl, Nat.le_refl _, fun y z c h1 h2 => ?_, fun y hy => ?_, fun y c _ h => ?_, fun _ => hd, Around.frames_deeper e0.frames, .inr ⟨rfl, rfl⟩, fun b z => absurd z (noA b), e0.bs, e0.bsz, fun b _ _ => noA b, fun b z => absurd z (noA b), e0.funs, e0.frf⟩,
    rfl, e0.bare, Un.kept hk, ⟨_, x.toInCall.ns, fun i y v h1 h2 h3 => ?_⟩, fun y c h => ⟨_, x.cell y c h⟩, e0.hok.fresh (Nat.le_refl _), fun y c h => ?_, fun p hp => absurd (show p ∈ ([] : List (Addr × Obj)) from hp) (by simp), e0.hok.kept hk, ?_⟩
  · exact name_of_addr x.apart (PySem.mem_of_lookup h1) (PySem.mem_of_lookup h2)
  · have hy : scope.names.lookup y = some .cell ∨ scope.names.lookup y = some .free := hy
    rcases hy with hy | hy
    · exact cell_has hy
    · exact absurd rfl (S.nofree _ (PySem.mem_of_lookup hy))
  · exact Nat.le_of_lt (x.above y c (PySem.mem_of_lookup h))
  · have hi : i < vs.length := by
      unfold start at h2
      by_cases hi : i < vs.length
      · exact hi
      · rw [List.getElem?_append_right (by simpa using hi)] at h2
        rw [List.getElem?_replicate] at h2
        split at h2 <;> cases h2
    have ha : vs[i]? = some v := by
      unfold start at h2
      rw [List.getElem?_append_left (by simpa using hi), List.getElem?_map] at h2
      cases e : vs[i]? with
      | none => rw [e] at h2; cases h2
      | some a => rw [e] at h2; cases h2; rfl
    obtain ⟨u, hu, rv⟩ := r.get ha
    have hp : ps[i]? = some y := by
      rw [← S.pre, List.getElem?_take_of_lt (by omega)]; exact h1
    have ndP : ps.Nodup := by rw [← S.pre]; exact S.nd.sublist (List.take_sublist _ _)
    refine ⟨u, rv, ?_⟩
    rcases S.par y (List.mem_of_getElem? hp) with k | k
    · exact .inl ⟨k, bindL_get ndP hp hu k⟩
    · obtain ⟨c, e⟩ := cell_has (n := s.heap.objs.size + 1) k
      refine .inr ⟨.inl k, c, e, ?_⟩
      have q := x.cell y c e
      rw [bindC_get ndP hp hu (by show scope.names.lookup y ≠ _; rw [k]; decide)] at q
      exact q
  · exact e0.hok.fresh (Nat.le_of_lt (x.above y c (PySem.mem_of_lookup h)))
  · unfold start
    show _ = N.length
    rw [List.length_append, List.length_map, List.length_replicate]
    omega

/-- THE RULE: a def (or a method) of the text, by its body. The body's reading t is chosen for each entry; it is run at the parameters' values -/
theorem fn_of {CX : CXT} {P : Program} {w : World} {K : PySem.W.Frag} {mg : Str → Option Value} {base : Heap} {k : Nat} {f : Addr} {name qual : Str} {params : Arguments} {body : List Stmt} {scope : Scope} {dV kV doc pm cdv ct oc : Value} {an od : Option Addr}
    {osl : Array (Option Value)} {N ps : List Str} {sp : Sp} (lk : K.lookup f = some ⟨oc, od, .func (PySem.W.fnOf name qual params body scope dV kV doc pm an cdv ct), osl⟩) (hcd : PySem.W.codeIn K cdv qual = true) (S : FnScope N ps scope)
    (len : ∀ vs H Q E, sp vs H Q E → vs.length = ps.length)
    (hbody : ∀ (A : Around) (outer : List Env) (s : Shared) (H : Hp) (vs : List V) (Q : VK) (E : XK), Room k (A.deeper (envOfC qual scope s.heap.objs.size f cdv)) → sp vs H Q E →
      ∃ t, PSs (cxOf CX P w K mg base N qual scope f cdv A outer s H E) body t ∧ t { nx := fun _ H' => Q .non H', rt := Q } (start N vs) H) :
    FnOk P w K mg base CX (k + 1) f (PySem.W.fnOf name qual params body scope dV kV doc pm an cdv ct) ps sp := by
  refine ⟨len, fun A outer s H args us vs Q E hr e0 hb r hsp => ?_⟩
  have hl := len _ _ _ _ hsp
  have KX : K.In s.heap := e0.mod.kin.keeps fun b o e => (e0.bs b o e).1
  have lim : s.heap.NoLimit := e0.mod.nolimit.keeps fun b o e => (e0.bs b o e).1
  have hkind : ∀ y ∈ ps.zip us, scope.names.lookup y.1 = some .local ∨ (scope.names.lookup y.1 = some .cell ∧ ((cellsFrom (s.heap.objs.size + 1) scope.names []).lookup y.1).isSome = true) := fun ⟨n, v⟩ hy => by
    rcases S.par n (List.of_mem_zip hy).1 with q | q
    · exact .inl q
    · exact .inr ⟨q, PySem.W.cellsFrom_some _ _ _ (.inl q)⟩
  refine codeAny_call_function hr.depth (KX _ _ lk) rfl S.co S.gen rfl (PySem.W.codeRec_of KX hcd) (hb _ _ _ _ ?_)
  refine wpAny_newFunctionEnv_cells S.kind hkind fun env he s1 x => ?_
  subst he
  refine ⟨lim.keeps x.toInCall.keep, codeAny_func ?_⟩
  obtain ⟨t, ht, hq⟩ := hbody A outer s H vs Q E (hr.deeper _) hsp
  have I : Inv (cxOf CX P w K mg base N qual scope f cdv A outer s H E) [] (start N vs) H s1 := inv_start S hr.hd e0 hl r x
  refine wpAny_mono (ht [] s1 (start N vs) H _ I hq) (fun fl s' hs => ?_) fun e s' hs => hs
  have fin : ∀ {σ' : St} {H' : Hp} {v : V} {u : Value}, Inv (cxOf CX P w K mg base N qual scope f cdv A outer s H E) [] σ' H' s' → RelV v u → Q v H' → CE outer P w H s Q u s' :=
    fun {σ' H' v u} J rv q => ⟨v, H', J.os, J.bare, J.base, J.hok, rv, q⟩
  cases fl with
  | ret u =>
    obtain ⟨v, σ', H', J, rv, q⟩ := hs
    exact fin J rv q
  | next =>
    obtain ⟨σ', H', J, q⟩ := hs
    exact fin (v := V.non) (u := Value.none) J rfl q
  | brk =>
    obtain ⟨_, _, _, q⟩ := hs
    exact False.elim q
  | cont =>
    obtain ⟨_, _, _, q⟩ := hs
    exact False.elim q
end L2

namespace L2
open PySem PySem.Spec PyProof.Rows
section
variable {X : Cx} {x : Str} {p pos : Pos} {e : Expr} {es : List Expr} {t : TA} {id T : String} {r : List V → Hp → VK → Prop}

def tCB (r : List V → Hp → VK → Prop) (t : TA) : TE := fun σ H Q => t σ H fun vs H1 => r vs H1 Q
/-- f(e, ..), f a built-in function -/
theorem pe_callB (hc : CallR X (.builtin id) r) (hg : Gl X x) (hm : X.mg x = none) (hv : bootBuiltins x = some (.builtin id)) (ha : PA X (e :: es) t) (hn : x ≠ "__name__" := by decide) (hdb : (x == ("__debug__" : Str)) = false := by decide)
    (he : starEach (e :: es) X.env = (false, eval e X.env) :: starEach es X.env := by rfl) (hpl : (backTo pos (starEach es X.env)).any (·.1) = false := by rfl) : PE X (.Call (.Name x p) (e :: es) [] pos) (tCB r t) := by
  intro pins s σ H Q I h
  refine wpAny_Call_Name_kw (ld_blt I hg hm hv ?_ hn hdb)
  exact PyProof.Rows.callWith_builtin1 (thn (ha pos pins s σ H _ I h) fun us s1 ⟨vs, H1, I1, r1, q1⟩ => hc pins s1 σ H1 vs us Q I1 r1 q1) he hpl
end
end L2

namespace HT
open PySem PyProof.Rows



section
open PySem.SeqAt
open PySem.AutoSeq1 (wpAny_loadPart')
open PySem.MeetsSeq PySem.MeetsSeq2 PySem.MeetsSeq3

end

section
variable {prog : Program} {w : World} {A : Around} {E : Value → Shared → Prop} {s : Shared}



/-! ### t[a:b], not the whole -/
/-- a slice's bound as a place among n (d where it is left out) -/
def sIx (n d : Nat) : Option Int → Nat
  | none => d
  | some v => if v < 0 then (v + (n : Int)).toNat else min v.toNat n
theorem sIx_none (n d : Nat) : sIx n d none = d := rfl
theorem sIx_nat (n d k : Nat) : sIx n d (some (k : Int)) = min k n := by
  show (if (k : Int) < 0 then ((k : Int) + (n : Int)).toNat else min (k : Int).toNat n) = min k n
  rw [if_neg (by omega), Int.toNat_natCast]

end
end HT

namespace L2
open PySem PySem.Spec PyProof.Rows

/-! ### the parts of a slice -/
abbrev TO := St → Hp → (Option Int → Hp → Prop) → Prop
/-- a slice's part (left out, or an int) -/
def PO (X : Cx) (e : Option Expr) (t : TO) : Prop :=
  ∀ (pins : List (Addr × Obj)) (s : Shared) (σ : St) (H : Hp) (Q : Option Int → Hp → Prop), Inv X pins σ H s → t σ H Q →
    wpAny (model X.prog X.w) X.A (evalPart e X.env) (fun u s' => ∃ o H', Inv X pins σ H' s' ∧ IsPart u o ∧ Q o H') X.xe s
def tNoPart : TO := fun _ H Q => Q none H
def tPart (t : TE) : TO := fun σ H Q => t σ H fun x H1 => ∃ i, x = .int i ∧ Q (some i) H1


section
variable {X : Cx} {e : Expr} {te : TE} {lo hi : Option Expr} {tl th : TO} {pos p2 : Pos}

theorem po_none : PO X none tNoPart := by
  intro pins s σ H Q I h
  rw [evalPart_none]
  exact wpAny_pure ⟨none, H, I, .none, h⟩
theorem po_some (h : PE X e te) : PO X (some e) (tPart te) := by
  intro pins s σ H Q I hw
  rw [evalPart_some]
  refine thn (h pins s σ H _ I hw) fun u s1 ⟨x, H1, I1, r1, q1⟩ => ?_
  obtain ⟨i, rfl, q⟩ := q1
  obtain ⟨t, rfl⟩ := r1
  exact ⟨some i, H1, I1, .int i t, q⟩

/-- what a slice of a value is, by values: the slice object stands at sl -/
def SlR (X : Cx) (r : V → Option Int → Option Int → Hp → VK → Prop) : Prop :=
  ∀ (pins : List (Addr × Obj)) (s : Shared) (σ : St) (H : Hp) (x : V) (v vl vu : Value) (lo hi : Option Int) (sl : Addr) (Q : VK), Inv X pins σ H s → RelV x v → s.heap.IsSliceOf sl vl vu .none → IsPart vl lo → IsPart vu hi → r x lo hi H Q →
    ∃ T id, typeLookup (.type T) "__getitem__" = pure (some (.builtin id)) ∧ s.TypeIs v T ∧ wpAny (model X.prog X.w) X.A (getItem v (.ref sl)) (EP X pins σ Q) X.xe s
theorem SlR.or {r r' : V → Option Int → Option Int → Hp → VK → Prop} (h : SlR X r) (h' : SlR X r') : SlR X (fun x lo hi H Q => r x lo hi H Q ∨ r' x lo hi H Q) := by
  intro pins s σ H x v vl vu lo hi sl Q I rx hs pl pu q
  rcases q with q | q
  · exact h pins s σ H x v vl vu lo hi sl Q I rx hs pl pu q
  · exact h' pins s σ H x v vl vu lo hi sl Q I rx hs pl pu q
def tSl (r : V → Option Int → Option Int → Hp → VK → Prop) (te : TE) (tl th : TO) : TE := fun σ H Q => te σ H fun x H1 => tl σ H1 fun l H2 => th σ H2 fun u H3 => r x l u H3 Q
/-- a[lo:hi], any a -/
theorem pe_slice {r : V → Option Int → Option Int → Hp → VK → Prop} (hr : SlR X r) (he : PE X e te) (hl : PO X lo tl) (hu : PO X hi th) : PE X (.Subscript e (.Slice lo hi none p2) pos) (tSl r te tl th) := by
  intro pins s σ H Q I h
  refine Subscript_ (thn (he pins s σ H _ I h) fun v s1 ⟨x, H1, I1, r1, q1⟩ => ?_)
  refine wpAny_Slice (thn (hl pins s1 σ H1 _ I1 q1) fun vl s2 ⟨l, H2, I2, pl, q2⟩ => thn (hu pins s2 σ H2 _ I2 q2) fun vu s3 ⟨u, H3, I3, pu, q3⟩ => ?_)
  rw [evalPart_none]
  refine wpAny_pure ?_
  have I4 : Inv X pins σ H3 { s3 with heap := s3.heap.push { cls := .type "slice", data := .fields #[vl, vu, .none] } } := I3.kept (t' := s3.toks) fun b ob q => Heap.get?_push_of_some _ q
  obtain ⟨T, id, hT, ht, hg⟩ := hr pins { s3 with heap := s3.heap.push { cls := .type "slice", data := .fields #[vl, vu, .none] } } σ H3 x v vl vu l u s3.heap.objs.size Q I4 r1 (Heap.IsSliceOf.new ..) pl pu q3
  show wpAny (model X.prog X.w) X.A (subscriptTail e (.Slice lo hi none p2) v (.ref s3.heap.objs.size)) (EP X pins σ Q) X.xe { s3 with heap := s3.heap.push { cls := .type "slice", data := .fields #[vl, vu, .none] } }
  exact tail_any (ops := [.ref s3.heap.objs.size, v]) ht hT hg (by with_unfolding_all rfl)

/-- the items of xs[lo:hi] -/
def cutV (xs : List V) (lo hi : Option Int) : List V := (xs.drop (HT.sIx xs.length 0 lo)).take (HT.sIx xs.length xs.length hi - HT.sIx xs.length 0 lo)
theorem cutV_length (xs : List V) (lo hi : Option Int) : (cutV xs lo hi).length ≤ xs.length := by
  unfold cutV
  rw [List.length_take, List.length_drop]
  omega

/-! ### t < u, t + u -/
end
end L2

namespace L2
open PySem PySem.Spec PyProof.Rows

/-! ### places -/
/-- the place that an index of any sign means -/
def ixN (n : Nat) (i : Int) : Option Nat := if 0 ≤ i then (if i < n then some i.toNat else none) else if -(n : Int) ≤ i then some (i + n).toNat else none
def atI {α : Type} (xs : List α) (i : Int) : Option α := (ixN xs.length i).bind fun j => xs[j]?
theorem ixN_seq {n : Nat} {i : Int} {j : Nat} (h : ixN n i = some j) : seqIndex? i n = some j ∧ j < n ∧ -(n : Int) ≤ i ∧ i < n := by
  unfold ixN at h
  by_cases h0 : 0 ≤ i
  · rw [if_pos h0] at h
    by_cases h1 : i < n
    · rw [if_pos h1] at h
      have e : i.toNat = j := Option.some.inj h
      exact ⟨by rw [seqIndex_of h0 h1, e], by omega, by omega, h1⟩
    · rw [if_neg h1] at h; cases h
  · rw [if_neg h0] at h
    by_cases h1 : -(n : Int) ≤ i
    · rw [if_pos h1] at h
      have e : (i + n).toNat = j := Option.some.inj h
      exact ⟨by rw [seqIndex_neg (by omega) h1, e], by omega, h1, by omega⟩
    · rw [if_neg h1] at h; cases h
theorem atI_get {α : Type} {xs : List α} {i : Int} {v : α} (h : atI xs i = some v) : ∃ j, seqIndex? i xs.length = some j ∧ xs[j]? = some v ∧ j < xs.length ∧ -(xs.length : Int) ≤ i ∧ i < xs.length := by
  unfold atI at h
  cases e : ixN xs.length i with
  | none => rw [e] at h; cases h
  | some j =>
    rw [e] at h
    obtain ⟨h1, h2, h3, h4⟩ := ixN_seq e
    exact ⟨j, h1, h, h2, h3, h4⟩
theorem atI_nat {α : Type} {xs : List α} {j : Nat} {v : α} (h : xs[j]? = some v) : atI xs (j : Int) = some v := by
  have hj : j < xs.length := (List.getElem?_eq_some_iff.mp h).1
  have e : ixN xs.length (j : Int) = some j := by
    unfold ixN
    rw [if_pos (by omega), if_pos (by omega)]; simp
  unfold atI; rw [e]; exact h

/-! ### what may be subscripted -/
/-- what stands as an index of a plain subscript -/
def PlainIx (b : Expr) : Prop := ∀ o i, subscripted b false o i = operate [o, i] (getItem o i)
/-- a subscript by values -/
def IxR (X : Cx) (r : R2) : Prop :=
  ∀ (value slice : Expr) (pins : List (Addr × Obj)) (s : Shared) (σ : St) (H : Hp) (x y : V) (v u : Value) (Q : VK), Inv X pins σ H s → RelV x v → RelV y u → r x y H Q →
    subscripted slice false v u = operate [v, u] (getItem v u) → wpAny (model X.prog X.w) X.A (subscriptTail value slice v u) (EP X pins σ Q) X.xe s
/-- a call of a builtin's method by values: the receiver, the arguments -/
def MtR (X : Cx) (id : String) (r : V → List V → Hp → VK → Prop) : Prop :=
  ∀ (pins : List (Addr × Obj)) (s : Shared) (σ : St) (H : Hp) (x : V) (xs : List V) (v : Value) (us : List Value) (Q : VK), Inv X pins σ H s → RelV x v → Vals xs us → r x xs H Q →
    wpAny (model X.prog X.w) X.A (call (.builtin id) (v :: us)) (EP X pins σ Q) X.xe s
section
variable {X : Cx} {a b : Expr} {ta tb : TE} {pos : Pos}
theorem IxR.or {r r' : R2} (h : IxR X r) (h' : IxR X r') : IxR X (fun x y H Q => r x y H Q ∨ r' x y H Q) := by
  intro value slice pins s σ H x y v u Q I rx ry q hs
  rcases q with q | q
  · exact h value slice pins s σ H x y v u Q I rx ry q hs
  · exact h' value slice pins s σ H x y v u Q I rx ry q hs
theorem MtR.or {id : String} {r r' : V → List V → Hp → VK → Prop} (h : MtR X id r) (h' : MtR X id r') : MtR X id (fun x xs H Q => r x xs H Q ∨ r' x xs H Q) := by
  intro pins s σ H x xs v us Q I rx rs q
  rcases q with q | q
  · exact h pins s σ H x xs v us Q I rx rs q
  · exact h' pins s σ H x xs v us Q I rx rs q
/-- a[b] -/
theorem pe_ix {r : R2} (hr : IxR X r) (ha : PE X a ta) (hb : PE X b tb) (hs : PlainIx b) : PE X (.Subscript a b pos) (tOp r ta tb) := by
  intro pins s σ H Q I h
  exact Subscript_ (binT ha hb I h fun v u s2 x y H2 I2 rx ry q => hr a b pins s2 σ H2 x y v u Q I2 rx ry q (hs _ _))

def rIxL (K : PySem.W.Frag) : R2 := fun x y H Q => ∃ p xs i v, x = .ref p ∧ y = .int i ∧ SqL K H p xs ∧ atI xs i = some v ∧ Q v H
theorem ix_list : IxR X (rIxL X.K) := by
  intro value slice pins s σ H x y v u Q I rx ry h hs
  obtain ⟨p, xs, i, z, rfl, rfl, hq, he, q⟩ := h
  cases rx
  obtain ⟨t, rfl⟩ := ry
  obtain ⟨its, r, pl, hz⟩ := I.list hq
  obtain ⟨j, h1, h2, h3, h4, h5⟩ := atI_get he
  obtain ⟨w, ew, rw'⟩ := r.get h2
  have hl := r.length
  have hn := line63
  have fin : EP X pins σ Q w s := ⟨z, H, I, rw', q⟩
  by_cases h0 : 0 ≤ i
  · have hj : i.toNat = j := by
      rw [seqIndex_of h0 h5] at h1
      exact Option.some.inj h1
    exact item_listR pl.isList h0 (by omega) (by rw [hj]; simpa using ew) fin hs
  · have hj : (i + (its.toArray.size : Int)).toNat = j := by
      rw [seqIndex_neg (by omega) h4] at h1
      rw [List.size_toArray, ← hl]
      exact Option.some.inj h1
    exact subscriptTail_builtinR (x := w) pl.isList.typeIs slot_list_getitem.lookup
      (wpAny_getItem_list_neg (Q := fun r s' => r = w ∧ EP X pins σ Q r s') pl.isList (by omega) (by rw [List.size_toArray] <;> omega) (by omega) (by rw [hj]; simpa using ew) ⟨rfl, fin⟩) hs

/-! ### xs[i] = v, any sign -/
theorem Inv.lst {pins : List (Addr × Obj)} {σ : St} {H : Hp} {s : Shared} {p : Addr} {xs : List V} (I : Inv X pins σ H s) (h : H p = some (.lst xs)) :
    ∃ (its : List Value) (n : Nat), Vals xs its ∧ s.heap.get? p = some { cls := .type "list", data := .seq its.toArray n } ∧ xs.length ≤ sizeLine := by
  obtain ⟨z, its, n, r, e⟩ := I.hok p _ h
  exact ⟨its, n, r, e, z⟩

/-! ### slices -/
theorem slice_bounds (lo hi : Option Int) (n : Nat) : (sliceBounds lo hi none n).1 = ((HT.sIx n 0 lo : Nat) : Int) ∧ (sliceBounds lo hi none n).2.1 = ((HT.sIx n n hi : Nat) : Int) ∧ (sliceBounds lo hi none n).2.2 = 1 := by
  refine ⟨?_, ?_, rfl⟩
  · cases lo with
    | none => simp [sliceBounds, HT.sIx]
    | some i =>
      simp only [sliceBounds, HT.sIx, Option.getD_none, show (1 : Int) > 0 by decide, if_true]
      by_cases h : i < 0
      · simp only [h, if_true] <;> omega
      · simp only [h, if_false] <;> omega
  · cases hi with
    | none => simp [sliceBounds, HT.sIx]
    | some i =>
      simp only [sliceBounds, HT.sIx, Option.getD_none, show (1 : Int) > 0 by decide, if_true]
      by_cases h : i < 0
      · simp only [h, if_true] <;> omega
      · simp only [h, if_false] <;> omega
theorem slicePick_cut (its : List Value) (lo hi : Option Int) : slicePick its.toArray lo hi none = ((its.drop (HT.sIx its.length 0 lo)).take (HT.sIx its.length its.length hi - HT.sIx its.length 0 lo)).toArray := by
  obtain ⟨h1, h2, h3⟩ := slice_bounds lo hi its.toArray.size
  unfold slicePick
  rw [h1, h2, h3]
  simp only [sliceRange_one, pick_run, List.size_toArray] <;> rfl
/-- xs[lo:hi] of a list: a new list -/
def rSlL (K : PySem.W.Frag) : V → Option Int → Option Int → Hp → VK → Prop := fun x lo hi H Q => ∃ a xs, x = .ref a ∧ SqL K H a xs ∧ ∀ p, H p = none → Q (.ref p) (upd H p (.lst (cutV xs lo hi)))
theorem sl_list : SlR X (rSlL X.K) := by
  intro pins s σ H x v vl vu lo hi sl Q I rx hs pl pu h
  obtain ⟨a, xs, rfl, hx, q⟩ := h
  cases rx
  obtain ⟨its, r, ht, hz⟩ := I.list hx
  have hlen := r.length
  refine ⟨"list", _, slot_list_getitem.lookup, ht.isList.typeIs, ?_⟩
  refine wpAny_getItem_list_slice ht.isList hs pl pu .none (by simp) ?_ (by rw [List.size_toArray] <;> omega)
  rw [slicePick_cut, ← hlen]
  refine ⟨.ref s.heap.objs.size, _, I.laid (t' := s.toks) (o := .lst (cutV xs lo hi)) (fun b ob q => Heap.get?_push_of_some _ q) (Nat.le_refl _) ?_, rfl, q _ (I.hok.fresh (Nat.le_refl _))⟩
  exact ⟨Nat.le_trans (cutV_length xs lo hi) hz, _, 0, (r.drop (HT.sIx xs.length 0 lo)).take (HT.sIx xs.length xs.length hi - HT.sIx xs.length 0 lo), Heap.get?_push_size _ rfl⟩

/-! ### in, not in: flat items -/

/-! ### len, list(x), tuple(x) of any list or tuple that is read -/
theorem call_len_seq : CallR X (.builtin "len") (fun xs H Q => ∃ p ys, xs = [.ref p] ∧ (SqL X.K H p ys ∨ SqT X.K H p ys) ∧ Q (.int ys.length) H) := by
  intro pins s σ H xs us Q I r h
  obtain ⟨p, ys, rfl, hq, q⟩ := h
  obtain ⟨u, rfl, rx⟩ := vals1 r
  cases rx
  have hn := line63
  rcases hq with hq | hq
  · obtain ⟨its, r', pl, hz⟩ := I.list hq
    have hlen := r'.length
    exact Calls.call_len_list pl.isList (by simp only [List.size_toArray] <;> omega) ⟨.int ys.length, H, I.tok _, ⟨s.toks + 1, by rw [List.size_toArray, hlen]⟩, q⟩
  · obtain ⟨its, r', pl, hz⟩ := I.tuple hq
    have hlen := r'.length
    exact len_tuple pl (by simp only [List.size_toArray] <;> omega) ⟨.int ys.length, H, I.tok _, ⟨s.toks + 1, by rw [List.size_toArray, hlen]⟩, q⟩
theorem CallR.or {f : Value} {r r' : List V → Hp → VK → Prop} (h : CallR X f r) (h' : CallR X f r') : CallR X f (fun xs H Q => r xs H Q ∨ r' xs H Q) := by
  intro pins s σ H xs us Q I rs q
  rcases q with q | q
  · exact h pins s σ H xs us Q I rs q
  · exact h' pins s σ H xs us Q I rs q

/-! ### the call of a builtin's method: o.m(..) -/
/-- the value is of that builtin type -/
def tyV (K : PySem.W.Frag) (T : String) (x : V) (H : Hp) : Prop := match x with
  | .str _ => T = "str"
  | .int _ => T = "int"
  | .ref p => (T = "list" ∧ ∃ xs, SqL K H p xs) ∨ (T = "tuple" ∧ ∃ o, K.lookup p = some o ∧ o.cls = .type "tuple" ∧ o.dict = none) ∨
      (T = "dict" ∧ ((∃ kvs, H p = some (.dK kvs)) ∨ ∃ kvs, H p = some (.dT kvs))) ∨ (T = "set" ∧ ∃ S n, H p = some (.set S n))
  | _ => False
theorem tyV_is {pins : List (Addr × Obj)} {σ : St} {H : Hp} {s : Shared} {T : String} {x : V} {v : Value} (I : Inv X pins σ H s) (r : RelV x v) (ty : tyV X.K T x H) :
    s.TypeIs v T ∧ ∀ a, v = .ref a → ∃ ob, s.heap.get? a = some ob ∧ ob.dict = none := by
  cases x with
  | str z =>
    obtain ⟨t, rfl⟩ := r
    cases (show T = "str" from ty)
    exact ⟨typeIs_str s z t, fun _ e => nomatch e⟩
  | int i =>
    obtain ⟨t, rfl⟩ := r
    cases (show T = "int" from ty)
    exact ⟨typeIs_int s i t, fun _ e => nomatch e⟩
  | ref p =>
    cases r
    rcases ty with ⟨rfl, xs, hq⟩ | ⟨rfl, o, hk, hc, hd⟩ | ⟨rfl, hk⟩ | ⟨rfl, S, n, hk⟩
    · obtain ⟨its, _, pl, _⟩ := I.list hq
      refine ⟨pl.isList.typeIs, fun a e => ?_⟩
      cases e
      obtain ⟨o, n, e, c, hd, _⟩ := pl
      exact ⟨o, e, hd⟩
    · refine ⟨⟨o, I.kIn p o hk, hc⟩, fun a e => ?_⟩
      cases e
      exact ⟨o, I.kIn _ o hk, hd⟩
    · have z : ∃ o, s.heap.get? p = some o ∧ o.ExactDict := by
        rcases hk with ⟨kvs, hk⟩ | ⟨kvs, hk⟩
        · obtain ⟨_, _, _, _, o, _, _, e, ex, _⟩ := I.hok p _ hk
          exact ⟨o, e, ex⟩
        · obtain ⟨_, _, _, _, o, _, _, e, ex, _⟩ := I.hok p _ hk
          exact ⟨o, e, ex⟩
      obtain ⟨o, e, ex⟩ := z
      refine ⟨⟨o, e, ex.1⟩, fun a e2 => ?_⟩
      cases e2
      exact ⟨o, e, ex.2.1⟩
    · obtain ⟨o, _, _, _, e, ex, _⟩ := I.hok p _ hk
      refine ⟨⟨o, e, ex.1⟩, fun a e2 => ?_⟩
      cases e2
      exact ⟨o, e, ex.2.1⟩
  | _ => exact False.elim ty
def tBM (K : PySem.W.Frag) (T : String) (r : V → List V → Hp → VK → Prop) (to : TE) (t : TA) : TE := fun σ H Q => to σ H fun x H1 => tyV K T x H1 ∧ t σ H1 fun xs H2 => r x xs H2 Q
variable {o e : Expr} {es : List Expr} {to : TE} {t : TA} {name : Str} {apos cpos : Pos} {T id : String} {r : V → List V → Hp → VK → Prop}
theorem pe_bm (pa : PlainAttrs T) (slot : Slot T name id) (hty : typeOf (.builtin id) = pure (.type "method_descriptor")) (hm : MtR X id r) (ho : PE X o to) (ha : PA X (e :: es) t)
    (hbase : attributeBase o name X.env (eval o X.env) = eval o X.env := by rfl)
    (hfew : ((backTo cpos (starEach (e :: es) X.env)).all (fun x => !x.1) && (backToKw cpos (keywordEach [] X.env)).all (fun x => x.1.isSome)
      && decide ((e :: es).length + ([] : List Keyword).length + (if ([] : List Keyword).isEmpty then 0 else 1) < 30)) = true := by rfl)
    (hline : (apos.endLine == cpos.line) = true := by rfl) (hs : starEach (e :: es) X.env = (false, eval e X.env) :: starEach es X.env := by rfl) (hplain : (backTo cpos (starEach es X.env)).any (·.1) = false := by rfl) :
    PE X (.Call (.Attribute o name apos) (e :: es) [] cpos) (tBM X.K T r to t) := by
  intro pins s σ H Q I h
  refine wpAny_Call_method_late hbase hfew hline rfl (thn (ho pins s σ H _ I h) fun v s1 ⟨x, H1, I1, r1, ty, q1⟩ => ?_)
  obtain ⟨h1, h2⟩ := tyV_is I1 r1 ty
  refine ⟨T, id, pa, slot, hty, h1, h2, ?_⟩
  have hA := ha cpos pins s1 σ H1 _ I1 q1
  rw [hs] at hA ⊢
  refine Calls.callWith_builtin (by show (false || (backTo cpos (starEach es X.env)).any (·.1)) = false; rw [hplain] <;> rfl) (Calls.evalArgs_plain ?_)
  exact thn hA fun us s2 ⟨vs, H2, I2, r2, q2⟩ => hm pins s2 σ H2 x vs v us Q I2 r1 r2 q2
/- xs.append(e), list.index on a module's tuple .. are MtR facts of 06m -/
end
end L2

namespace L2
open PySem PySem.Spec PyProof.Rows

def MtM (X : Cx) (id : String) (r : V → List V → Hp → VK → Prop) : Prop :=
  ∀ (pins : List (Addr × Obj)) (s : Shared) (σ : St) (H : Hp) (x : V) (xs : List V) (v : Value) (us : List Value) (Q : VK), Inv X pins σ H s → RelV x v → Vals xs us → r x xs H Q →
    wpAny (model X.prog X.w) X.A (call (.builtin id) (v :: us)) (EP X pins σ Q) X.xe s

/-! ### lists of values -/
theorem Vals.one : ∀ {x : V} {us : List Value}, Vals [x] us → ∃ u, us = [u] ∧ RelV x u
  | _, _, .cons r .nil => ⟨_, rfl, r⟩
theorem Vals.two : ∀ {x y : V} {us : List Value}, Vals [x, y] us → ∃ u v, us = [u, v] ∧ RelV x u ∧ RelV y v
  | _, _, _, .cons r (.cons q .nil) => ⟨_, _, rfl, r, q⟩

section
variable {X : Cx} {pins : List (Addr × Obj)} {σ : St} {H : Hp} {s : Shared} {l b : Addr} {xs ys zs : List V}

/-! ### the two steps: a tracked list is rewritten, a new list is laid -/
theorem Inv.lset {its its' : List Value} {n : Nat} {f : Array Value → Array Value} {t' : Nat} (I : Inv X pins σ H s) (hH : H l = some (.lst xs))
    (e : s.heap.get? l = some { cls := .type "list", data := .seq its.toArray n }) (hf : f its.toArray = its'.toArray) (hv : Vals ys its') (hz : ys.length ≤ sizeLine) :
    Inv X pins σ (upd H l (.lst ys)) { s with heap := s.heap.update l (Obj.mapSeq f), toks := t' } := by
  have q := PySem.IsL.update e f
  rw [hf] at q
  refine I.write (x := l) (e := l) (by rw [hH]; exact trivial) (.inl rfl) (fun b' u hb hu => (Heap.get?_update_other s.heap (Obj.mapSeq f) (Ne.symm hb)).trans hu) ⟨_, q⟩ ?_
  exact ⟨hz, its', _, hv, q⟩
theorem Inv.lnew {its : List Value} {t' : Nat} (I : Inv X pins σ H s) (hv : Vals ys its) (hz : ys.length ≤ sizeLine) :
    Inv X pins σ (upd H s.heap.objs.size (.lst ys)) { s with heap := s.heap.push { cls := .type "list", data := .seq its.toArray }, toks := t' } :=
  I.laid (fun _ _ q => Heap.get?_push_of_some _ q) (Nat.le_refl _) ⟨hz, its, 0, hv, Heap.get?_push_size _ rfl⟩
theorem Inv.fresh (I : Inv X pins σ H s) : H s.heap.objs.size = none := I.hok.fresh (Nat.le_refl _)
theorem Inv.lstM (I : Inv X pins σ H s) (hH : H l = some (.lst xs)) : xs.length ≤ sizeLine ∧ ∃ (its : List Value) (n : Nat), Vals xs its ∧ xs.length = its.length ∧ s.heap.get? l = some { cls := .type "list", data := .seq its.toArray n } := by
  obtain ⟨z, its, n, r, e⟩ := I.hok l _ hH
  exact ⟨z, its, n, r, r.length, e⟩

end

section
variable {X : Cx}

/-! ### methods -/
def rAppend : V → List V → Hp → VK → Prop := fun x vs H Q => ∃ l xs y, x = .ref l ∧ vs = [y] ∧ H l = some (.lst xs) ∧ xs.length < sizeLine ∧ Q .non (upd H l (.lst (xs ++ [y])))
theorem mt_append : MtM X "list.append" rAppend := by
  intro pins s σ H x vs v us Q I rx rv h
  obtain ⟨l, xs, y, rfl, rfl, hH, hz, q⟩ := h
  cases rx
  obtain ⟨u, rfl, ru⟩ := rv.one
  obtain ⟨z, its, n, r, hl, e⟩ := I.lstM hH
  refine call_meets F.slot_list_append ⟨_, e, rfl⟩ F.entry_list_append (F.args_list_append_2 _ _) (PySem.list_append l its.toArray n u (by rw [List.size_toArray]; omega)) ⟨e, ?_⟩
  refine ⟨.non, _, I.lset (its' := its ++ [u]) hH e (by simp) (r.append (.cons ru .nil)) ?_, rfl, q⟩
  rw [List.length_append, List.length_singleton]
  omega






/-! ### list + list, list += list, list * int -/
def rCat : R2 := fun x y H Q => ∃ l b xs zs, x = .ref l ∧ y = .ref b ∧ H l = some (.lst xs) ∧ H b = some (.lst zs) ∧ xs.length + zs.length ≤ sizeLine ∧ ∀ p, H p = none → Q (.ref p) (upd H p (.lst (xs ++ zs)))
theorem op_cat : OpR X (binaryOp .Add) rCat := by
  intro pins s σ H x y v u Q I rx ry h
  obtain ⟨l, b, xs, zs, rfl, rfl, hH, hB, hz, q⟩ := h
  cases rx
  cases ry
  obtain ⟨z, its, n, r, hl, e⟩ := I.lstM hH
  obtain ⟨z2, its2, n2, r2, hl2, e2⟩ := I.lstM hB
  refine PySem.P.add_list e e2 ?_ (by rw [List.size_toArray, List.size_toArray]; omega)
  have ea : its.toArray ++ its2.toArray = (its ++ its2).toArray := by simp
  rw [ea]
  exact ⟨.ref _, _, I.lnew (t' := s.toks) (r.append r2) (by rw [List.length_append]; omega), rfl, q _ I.fresh⟩

/-! ### del xs[i] -/
end

/-! ### xs[a:b] = ys -/
section
variable {prog : Program} {w : World} {A : Around} {E : Value → Shared → Prop} {s : Shared}
end

section
variable {X : Cx}
end
end L2

namespace L2
open PySem PySem.Spec PyProof.Rows

theorem Vals.ints : ∀ {ns : List Int} {us : List Value}, Vals (ns.map V.int) us → IntsAre us ns
  | [], us, h => by
    rw [List.map_nil] at h
    cases h
    exact IntsAre.nil
  | n :: ns, us, h => by
    rw [List.map_cons] at h
    cases h with
    | cons r t =>
      obtain ⟨k, rfl⟩ := r
      exact IntsAre.cons n k (Vals.ints t)
theorem Vals.strs : ∀ {xs : List Str} {us : List Value}, Vals (xs.map V.str) us → StrsAre us xs
  | [], us, h => by
    rw [List.map_nil] at h
    cases h
    exact StrsAre.nil
  | x :: xs, us, h => by
    rw [List.map_cons] at h
    cases h with
    | cons r t =>
      obtain ⟨k, rfl⟩ := r
      exact StrsAre.cons x k (Vals.strs t)

/-! ### the library's walks over a list of ints, kept objects alone -/
section
variable {prog : Program} {w : World} {A : Around} {E : Value → Shared → Prop} {s : Shared} {l : Addr} {its : List Value} {ns : List Int} {Q : Value → Shared → Prop}
end

/-! ### the calls, by values (CallR of 03t; MtR of 06l) -/
section
variable {X : Cx}

/-! sorted, sort (fewer than 64 items: the library's own bound) -/
end

/-! ### list.index, flat items -/
section
variable {X : Cx}
end

/-! ### type(x) of an own instance; is, is not of a module's class -/
section
variable {X : Cx}
end

/-! ### any(xs), all(xs) of a list of bools -/
section
variable {X : Cx}
end

/-! ### == and != of data at any depth: none, bools, ints, texts, lists, tuples -/
mutual
inductive Dp (K : PySem.W.Frag) (H : Hp) : V → PyData → Prop
  | non : Dp K H .non .none
  | bl (b : Bool) : Dp K H (.bl b) (.bool b)
  | int (i : Int) : Dp K H (.int i) (.int i)
  | str (x : Str) : Dp K H (.str x) (.str x)
  | lst {a : Addr} {xs : List V} {ds : List PyData} : SqL K H a xs → DpAll K H xs ds → Dp K H (.ref a) (.list ds)
  | tup {a : Addr} {xs : List V} {ds : List PyData} : SqT K H a xs → DpAll K H xs ds → Dp K H (.ref a) (.tuple ds)
inductive DpAll (K : PySem.W.Frag) (H : Hp) : List V → List PyData → Prop
  | nil : DpAll K H [] []
  | cons {v : V} {vs : List V} {d : PyData} {ds : List PyData} : Dp K H v d → DpAll K H vs ds → DpAll K H (v :: vs) (d :: ds)
end
section
variable {X : Cx} {pins : List (Addr × Obj)} {σ : St} {H : Hp} {s : Shared}
mutual
theorem Dp.reads (I : Inv X pins σ H s) : ∀ (d : PyData) (v : V) (u : Value), Dp X.K H v d → RelV v u → ∃ as, Reads s.heap u d as
  | .none, _, _, h, r => by
    cases h
    cases r
    exact ⟨_, Reads.none⟩
  | .bool b, _, _, h, r => by
    cases h
    cases r
    exact ⟨_, Reads.bool b⟩
  | .int i, _, _, h, r => by
    cases h
    obtain ⟨t, rfl⟩ := r
    exact ⟨_, Reads.int i t⟩
  | .str x, _, _, h, r => by
    cases h
    obtain ⟨t, rfl⟩ := r
    exact ⟨_, Reads.str x t⟩
  | .list ds, _, _, h, r => by
    cases h with
    | lst hs ha =>
      cases r
      obtain ⟨its, rv, ⟨o, n, ho, hc, _, hd⟩, _⟩ := I.list hs
      obtain ⟨as, hr⟩ := Dp.readsAll I ds _ its ha rv
      exact ⟨_, Reads.list ho hc hd hr⟩
  | .tuple ds, _, _, h, r => by
    cases h with
    | tup hs ha =>
      cases r
      obtain ⟨its, rv, ⟨o, ho, hc, n, hd⟩, _⟩ := I.tuple hs
      obtain ⟨as, hr⟩ := Dp.readsAll I ds _ its ha rv
      exact ⟨_, Reads.tuple ho hc hd hr⟩
  | .dict _, _, _, h, _ => by cases h
theorem Dp.readsAll (I : Inv X pins σ H s) : ∀ (ds : List PyData) (vs : List V) (us : List Value), DpAll X.K H vs ds → Vals vs us → ∃ as, ReadsAll s.heap us ds as
  | [], _, _, h, r => by
    cases h
    cases r
    exact ⟨_, ReadsAll.nil⟩
  | d :: ds, _, _, h, r => by
    cases h with
    | cons h1 h2 =>
      cases r with
      | cons r1 r2 =>
        obtain ⟨as, q1⟩ := Dp.reads I d _ _ h1 r1
        obtain ⟨bs, q2⟩ := Dp.readsAll I ds _ _ h2 r2
        exact ⟨_, ReadsAll.cons q1 q2⟩
end
end
section
variable {X : Cx}
def rEqD (K : PySem.W.Frag) : R2 := fun x y H Q => ∃ d e, Dp K H x d ∧ Dp K H y e ∧ SeqAt.shaped d = true ∧ SeqAt.shaped e = true ∧ Q (.bl (PyData.eqv d e)) H
theorem op_eqD (hu : X.A.units + 64 < cLine) : OpR X (compareOp .Eq) (rEqD X.K) := by
  intro pins s σ H x y v u Q I rx ry h
  obtain ⟨d, e, hd, he, sd, se, q⟩ := h
  obtain ⟨as, r1⟩ := Dp.reads I d x v hd rx
  obtain ⟨bs, r2⟩ := Dp.reads I e y u he ry
  exact SeqAt.compareEq_shaped r1 r2 sd se hu ⟨.bl _, H, I, rfl, q⟩
end
end L2

namespace L2
open PySem PySem.Spec PyProof.Rows











section
variable {X : Cx} {pins : List (Addr × Obj)} {σ : St} {H : Hp} {s : Shared}


def tYes : TT := fun _ H Q => Q true H
end



section
variable {X : Cx}
end

/-! ### the forms one uses -/
end L2

namespace L2
open PySem PySem.Spec PyProof.Rows


section
variable {prog : Program} {w : World} {A : Around} {R : Result → Shared → Prop} {s : Shared} {elt t0 i0 t1 i1 : Expr} {ifs0 ifs1 : List Expr} {scope : Scope} {pos : Pos} {it acc : Value} {env : Env}
end

section
variable {X : Cx}
end
end L2

namespace L2
open PySem PySem.Spec PyProof.Rows

/-! ### lists of pairs as tables -/
section
variable {κ : Type} [DecidableEq κ]
def valV (kvs : List (κ × V)) (k : κ) : Option V := (kvs.find? fun kv => decide (kv.1 = k)).map (·.2)
/-- in its place, or at the end -/
def putK (kvs : List (κ × V)) (k : κ) (v : V) : List (κ × V) :=
  if (kvs.any fun kv => decide (kv.1 = k)) = true then kvs.map (fun kv => if kv.1 = k then (kv.1, v) else kv) else kvs ++ [(k, v)]
def dropK (kvs : List (κ × V)) (k : κ) : List (κ × V) := kvs.filter fun kv => decide (kv.1 ≠ k)

theorem valV_pos {p : κ × V} {r : List (κ × V)} {k : κ} (e : p.1 = k) : valV (p :: r) k = some p.2 := by simp [valV, List.find?_cons, e]
theorem valV_neg {p : κ × V} {r : List (κ × V)} {k : κ} (e : ¬ p.1 = k) : valV (p :: r) k = valV r k := by simp [valV, List.find?_cons, e]
theorem valV_any (k : κ) : ∀ kvs : List (κ × V), (kvs.any fun kv => decide (kv.1 = k)) = (valV kvs k).isSome
  | [] => rfl
  | p :: r => by
    rw [List.any_cons]
    by_cases e : p.1 = k
    · simp only [valV_pos e, decide_eq_true e, Bool.true_or, Option.isSome_some]
    · rw [valV_neg e, decide_eq_false e, Bool.false_or]; exact valV_any k r
theorem putK_new {kvs : List (κ × V)} {k : κ} (v : V) (h : valV kvs k = none) : putK kvs k v = kvs ++ [(k, v)] := by
  unfold putK
  rw [valV_any, h]
  exact if_neg (by decide)

theorem RelO.getD {o : Option V} {u : Option Value} {d : V} {d' : Value} (r : RelO o u) (rd : RelV d d') : RelV (o.getD d) (u.getD d') := by
  cases o with
  | none => cases u with
    | none => exact rd
    | some _ => exact (show False from r).elim
  | some _ => cases u with
    | none => exact (show False from r).elim
    | some _ => exact r

theorem KV.any {kvs : List (κ × V)} {vs : List (κ × Value)} (r : KV kvs vs) (k : κ) : (kvs.any fun kv => decide (kv.1 = k)) = vs.any fun kv => decide (kv.1 = k) := by
  unfold KV at r
  induction r with
  | nil => rfl
  | cons h t ih => rw [List.any_cons, List.any_cons, ih, h.1]
theorem KV.drop {kvs : List (κ × V)} {vs : List (κ × Value)} (r : KV kvs vs) (k : κ) : KV (dropK kvs k) (without vs k) := by
  unfold KV at r ⊢
  unfold dropK without
  induction r with
  | nil => exact .nil
  | @cons p q ps qs h t ih =>
    obtain ⟨h1, h2⟩ := h
    rw [List.filter_cons, List.filter_cons]
    by_cases e : p.1 = k
    · have a : ¬ decide (p.1 ≠ k) = true := by simp [e]
      have b : ¬ decide (q.1 ≠ k) = true := by simp [h1.symm.trans e]
      rw [if_neg a, if_neg b]; exact ih
    · have e' : ¬ q.1 = k := fun z => e (h1.trans z)
      have a : decide (p.1 ≠ k) = true := by simp [e]
      have b : decide (q.1 ≠ k) = true := by simp [e']
      rw [if_pos a, if_pos b]; exact .cons ⟨h1, h2⟩ ih
theorem KV.keys {kvs : List (κ × V)} {vs : List (κ × Value)} (r : KV kvs vs) : kvs.map (·.1) = vs.map (·.1) := by
  unfold KV at r
  induction r with
  | nil => rfl
  | cons h t ih => rw [List.map_cons, List.map_cons, ih, h.1]
theorem KV.length {kvs : List (κ × V)} {vs : List (κ × Value)} (r : KV kvs vs) : kvs.length = vs.length := Paired.length r
end


/-! ### a tracked dict, its keys ints and texts or tuples of these -/

/-- raw entries of a dict with tuple keys -/
abbrev KT (H : Hp) : List (List Key × V) → List (List Key × Addr × Value) → Prop := Paired fun p q => p.1 = q.1 ∧ H q.2.1 = some (.tup (p.1.map kV)) ∧ RelV p.2 q.2.2
theorem KT.keeps {H H' : Hp} {kvs : List (List Key × V)} {xs : List (List Key × Addr × Value)} (r : KT H kvs xs) (ht : ∀ b ys, H b = some (.tup ys) → H' b = some (.tup ys)) : KT H' kvs xs :=
  Paired.mapP r fun _ _ z => ⟨z.1, ht _ _ z.2.1, z.2.2⟩

section
variable {P : Program} {w : World} {H : Hp} {h : Heap} {a : Addr}
end

/-- what the dict at a holds at the key y -/
def DGet (H : Hp) (a : Addr) (y : V) (r : Option V) : Prop :=
  (∃ kvs k, Rd H a (.dK kvs) ∧ y = kV k ∧ r = valV kvs k) ∨ ∃ kvs k b, Rd H a (.dT kvs) ∧ y = .ref b ∧ H b = some (.tup (k.map kV)) ∧ r = valV kvs k
/-- the heap behind a[y] = v -/
def DPut (H : Hp) (a : Addr) (y v : V) (H' : Hp) : Prop :=
  (∃ kvs k, H a = some (.dK kvs) ∧ y = kV k ∧ kvs.length < sizeLine ∧ H' = upd H a (.dK (putK kvs k v))) ∨
  ∃ kvs k b, H a = some (.dT kvs) ∧ y = .ref b ∧ H b = some (.tup (k.map kV)) ∧ kvs.length < sizeLine ∧ H' = upd H a (.dT (putK kvs k v))
theorem DGet.k {H : Hp} {a : Addr} {kvs : List (Key × V)} {k : Key} (e : H a = some (.dK kvs)) : DGet H a (kV k) (valV kvs k) := .inl ⟨kvs, k, .inl e, rfl, rfl⟩
theorem DGet.t {H : Hp} {a b : Addr} {kvs : List (List Key × V)} {k : List Key} (e : H a = some (.dT kvs)) (eb : H b = some (.tup (k.map kV))) : DGet H a (.ref b) (valV kvs k) := .inr ⟨kvs, k, b, .inl e, rfl, eb, rfl⟩
theorem DPut.k {H : Hp} {a : Addr} {kvs : List (Key × V)} {k : Key} {v : V} (e : H a = some (.dK kvs)) (hl : kvs.length < sizeLine) : DPut H a (kV k) v (upd H a (.dK (putK kvs k v))) := .inl ⟨kvs, k, e, rfl, hl, rfl⟩
theorem DPut.t {H : Hp} {a b : Addr} {kvs : List (List Key × V)} {k : List Key} {v : V} (e : H a = some (.dT kvs)) (eb : H b = some (.tup (k.map kV))) (hl : kvs.length < sizeLine) :
    DPut H a (.ref b) v (upd H a (.dT (putK kvs k v))) := .inr ⟨kvs, k, b, e, rfl, eb, hl, rfl⟩


section
variable {X : Cx} {pins : List (Addr × Obj)} {σ : St} {H : Hp} {s : Shared} {a : Addr} {y v : V} {u r : Value} {o : Option V} {A : Around} {E : Value → Shared → Prop}


end

section
variable {X : Cx} {pins : List (Addr × Obj)} {σ : St} {H : Hp} {s : Shared} {a : Addr} {kvs : List (Key × V)} {k : Key} {u : Value} {A : Around} {E : Value → Shared → Prop}
end


/-! ### readings and rules -/



section
variable {X : Cx} {o i e value : Expr} {pos pos' tpos : Pos} {td ty tv : TE}
end


/-! ### displays -/
section
variable {X : Cx} {pos : Pos}
end




/-! ### methods -/


section
variable {X : Cx} {pins : List (Addr × Obj)} {σ : St} {H : Hp} {s : Shared} {a : Addr} {y d : V} {u r : Value} {o : Option V} {A : Around} {E : Value → Shared → Prop}
end

section
variable {X : Cx} {o e f : Expr} {apos cpos : Pos} {td ty tx : TE}
end

/-! ### dict(d): a copy -/
section
variable {X : Cx} {pins : List (Addr × Obj)} {σ : St} {H : Hp} {s : Shared} {a : Addr} {kvs : List (Key × V)} {A : Around} {E : Value → Shared → Prop}
end


section
variable {X : Cx} {pins : List (Addr × Obj)} {σ : St} {H : Hp} {s : Shared} {a : Addr} {y : V} {u : Value} {A : Around} {E : Value → Shared → Prop}
end
end L2

namespace L2
open PySem PySem.Spec PyProof.Rows


section
variable {prog : Program} {w : World} {A : Around} {E : Value → Shared → Prop}


end

section
variable {X : Cx}
end
end L2

namespace L2
open PySem PySem.Spec PyProof.Rows


section
variable {X : Cx} {pins : List (Addr × Obj)} {σ : St} {H : Hp} {s : Shared} {h' : Heap}

/-! ### locking a thing while a statement runs -/
end
section
variable {X : Cx}

/-! ### one iterator just laid -/
end

/-! ### range with a step -/
/-- range(i, j, c): small bounds, n items -/
def RgC (i j c : Int) (n : Nat) : Prop := c ≠ 0 ∧ c.natAbs < 1073741824 ∧ Builtin.Range.small i j c = true ∧ Builtin.Range.rangeSize i j c = n
section
variable {X : Cx} {tg : Expr}
end

/-! ### reversed(list) -/
section
variable {X : Cx} {tg : Expr}
end

/-! ### a str -/

/-! ### a dict's keys: any dict's entries -/
section
variable {prog : Program} {w : World} {A : Around} {E : Value → Shared → Prop} {s : Shared}
end

/-! ### a locked dict -/
section
variable {X : Cx} {pins : List (Addr × Obj)} {σ : St} {H : Hp} {s : Shared} {d : Addr} {o : Obj}
end

/-- the keys of the locked dict at d, in their order -/
def Itk (d : Addr) (o : Obj) (kvs : List (Key × V)) : It :=
  ⟨fun i H => H d = some (.frz o (.dK kvs)) ∧ i < kvs.length, fun i H x H' => H' = H ∧ ∃ k v, kvs[i]? = some (k, v) ∧ x = kV k, fun i H => H d = some (.frz o (.dK kvs)) ∧ kvs.length ≤ i⟩
section
variable {P : Program} {w : World} {K : PySem.W.Frag} {tg : Expr} {d : Addr} {o : Obj} {es : Array DictEntry} {ep : Nat}
end

/-! ### for k in d, d.keys(), d.values(), d.items() -/
section
variable {X : Cx} {tg e : Expr} {td : TE} {apos cpos : Pos}
end

/-! ### enumerate(list) -/
/-! ### zip(list, list) -/
end L2

section 
namespace Bits
open PySem PyProof.Rows








end Bits
end 

section 
namespace TL
open PySem PySem.Builtin PySem.Builtin.Str PySem.StrLaws

abbrev tl (x : Str) : List Nat := x.cps.toList

/-! ### the list functions -/
/-- S stands at the head of l -/
def pre (S l : List Nat) : Bool := l.take S.length == S
/-- l cut at each S from the left; k signs are still to be passed over -/
def spl (S : List Nat) : Nat → List Nat → List Nat → List (List Nat)
  | _, acc, [] => [acc]
  | 0, acc, c :: r => if pre S (c :: r) = true then acc :: spl S (S.length - 1) [] r else spl S 0 (acc ++ [c]) r
  | k + 1, acc, _ :: r => spl S k acc r
/-- what stands before the first S, and behind it -/
def par (S : List Nat) : List Nat → List Nat → Option (List Nat × List Nat)
  | _, [] => none
  | acc, c :: r => if pre S (c :: r) = true then some (acc, (c :: r).drop S.length) else par S (acc ++ [c]) r




/-! ### the model's split and partition are these -/




/-! ### computing spl and par -/


/-! ### digits -/

/-! ### words: x.split() -/
end TL
end 

namespace L2
open PySem PySem.Spec PyProof.Rows




section
variable {X : Cx} {pins : List (Addr × Obj)} {σ : St} {H : Hp} {s : Shared} {Q : VK}
end

section
variable {X : Cx}





/-! ### of a text alone -/

/-! ### of a text and a text -/

end

section
variable {X : Cx} {o e : Expr} {to te : TE}

end
end L2

namespace L2
open PySem PySem.Spec PyProof.Rows

section
variable {X : Cx}
end

/-! ### slices of a text -/
theorem IsPart.raw {v : Value} {o : Option Int} (p : IsPart v o) : ∃ l : Option (Int × Tok), v = partValue l ∧ l.map (·.1) = o := by
  cases p with
  | none => exact ⟨none, rfl, rfl⟩
  | int i t => exact ⟨some (i, t), rfl, rfl⟩


end L2

namespace Att
open PySem PySem.W PySem.Calls PyProof.Rows

/-! ### the script -/
theorem ints_of_wellAll {P : Params} {h : Heap} : ∀ (ns : List Int) (vs : List Value), WellAll P h vs (ns.map WData.int) → IntsAre vs ns := by
  intro ns
  induction ns with
  | nil =>
    intro vs w
    rw [List.map_nil] at w
    cases w
    exact .nil
  | cons n ns ih =>
    intro vs w
    rw [List.map_cons] at w
    cases w with
    | cons a b =>
      cases a
      exact .cons _ _ (ih _ b)



/-! ### the attachment: holds_open's last premise (the goal 'hc' behind k_head) from a wpAny of the law's body -/



/-! ### rules over ANY heap (no ledger) from facts about the written part K: the library's own take a ledger (News) for what they write -/
section
variable {prog : Program} {w : World} {A : Around} {E : Value → Shared → Prop} {s : Shared} {K : Frag}





/-! the whole heap as the ledger: makes every rule that writes through a ledger a rule over any heap -/
def ledger (h : Heap) (L d : Addr) : List (Addr × Obj) := (List.range h.objs.size).filterMap fun a => if a = L ∨ a = d then none else (h.get? a).map fun o => (a, o)

end
end Att

namespace L2
open PySem PySem.Spec PyProof.Rows

theorem vals_ints : ∀ {vs : List Value} {ns : List Int}, IntsAre vs ns → Vals (ns.map V.int) vs
  | _, _, .nil => .nil
  | _, _, .cons n t h => .cons ⟨t, rfl⟩ (vals_ints h)

/-- nothing is tracked but the script, known to the object (or it is an object of the module) -/
def Only (H : Hp) : Prop := ∀ b, H b = none ∨ ∃ o xs, H b = some (.frz o (.lst xs))

end L2

namespace L2
open PySem PySem.Spec PyProof.Rows

abbrev KOf {K : PySem.W.Frag} {h : Heap} (_ : K.In h) : PySem.W.Frag := K

end L2

/- THE LAST THEOREM (shape; LID, My.* are yours):
   My.Adr: a structure of the addresses that your layer names (classes, functions); My.Txt K t: a structure (Prop) of the equations over K;
   My.txt_mk : {K} {implicit addresses ..} (e1 : nsIn K mainGlobals "law" = some (some (.ref f))) (e2 : K.lookup f = some ⟨oc, od, .func (fnOf "law" "law" params body scope dV kV doc pm an cdv ct), sl⟩) (e3 : codeIn K cdv "law" = true) .. : ∃ t, My.Txt K t

(the tactic k_is has no namespace: write k_is) -/

/-! SHORT WORDS over the layer: a def of the text, its body, what a loop and a test want. -/
namespace L2
open PySem PySem.Spec PyProof.Rows

/-! ### the text by places -/
def defArgs (s : Stmt) : Arguments := match s with
  | .FunctionDef _ a _ _ _ _ _ _ _ _ => a
  | _ => { posonlyargs := [], args := [], vararg := none, kwonlyargs := [], kw_defaults := [], kwarg := none, defaults := [] }
def defBody (s : Stmt) : List Stmt := match s with
  | .FunctionDef _ _ b _ _ _ _ _ _ _ => b
  | _ => []
def defScope (s : Stmt) : Scope := match s with
  | .FunctionDef _ _ _ _ _ _ sc _ _ _ => sc
  | _ => { kind := .function, names := [], isGenerator := false, isCoroutine := false }

/-! ### no exception leaves a def -/
abbrev CX0 : CXT := fun _ _ _ _ _ _ => False
abbrev E0 : XK := fun _ _ _ => False
theorem pass0 {X : Cx} : Passes CX0 X E0 := fun _ _ _ _ _ _ _ h => h.elim

/-! ### a def (or method) of the text as it stands behind the top -/
structure Fun (K : PySem.W.Frag) (x qual : Str) (st : Stmt) (f : Addr) (fd : FuncData) : Prop where
  ex : ∃ (oc : Value) (od : Option Addr) (kV doc pm : Value) (an : Option Addr) (cdv ct : Value) (osl : Array (Option Value)),
    fd = PySem.W.fnOf x qual (defArgs st) (defBody st) (defScope st) .none kV doc pm an cdv ct ∧ K.lookup f = some ⟨oc, od, .func fd, osl⟩ ∧ PySem.W.codeIn K cdv qual = true
  kp : PySem.W.keepIn K (.ref f) = true
section
variable {P : Program} {w : World} {K : PySem.W.Frag} {mg : Str → Option Value} {base : Heap}
/-- THE RULE for a def: its body as a term of rules, and the reading of that term -/
theorem Fun.ok {x qual : Str} {st : Stmt} {f : Addr} {fd : FuncData} {N ps : List Str} {k : Nat} {sp : Sp} (F : Fun K x qual st f fd) (S : FnScope N ps (defScope st)) (len : ∀ vs H Q E, sp vs H Q E → vs.length = ps.length)
    (hbody : ∀ (cdv : Value) (A : Around) (outer : List Env) (s : Shared) (H : Hp) (vs : List V) (Q : VK) (E : XK), Room k (A.deeper (envOfC qual (defScope st) s.heap.objs.size f cdv)) → sp vs H Q E →
      ∃ t, PSs (cxOf CX0 P w K mg base N qual (defScope st) f cdv A outer s H E).nox (defBody st) t ∧ t { nx := fun _ H' => Q .non H', rt := Q } (start N vs) H) : FnOk P w K mg base CX0 (k + 1) f fd ps sp := by
  obtain ⟨oc, od, kV, doc, pm, an, cdv, ct, osl, rfl, lk, hcd⟩ := F.ex
  refine fn_of lk hcd S len fun A outer s H vs Q E hr hsp => ?_
  obtain ⟨t, h, q⟩ := hbody cdv A outer s H vs Q E hr hsp
  exact ⟨t, h.nox, q⟩
/-- how its arguments bind (no defaults): h is «fun _ _ _ _ _ _ us hl => match us, hl with | [_, _], _ => rfl», one _ a parameter -/
theorem Fun.binds {x qual : Str} {st : Stmt} {f : Addr} {fd : FuncData} {ps : List Str} (F : Fun K x qual st f fd)
    (h : ∀ (kV doc pm : Value) (an : Option Addr) (cdv ct : Value) (us : List Value), us.length = ps.length → bindArgs (PySem.W.fnOf x qual (defArgs st) (defBody st) (defScope st) .none kV doc pm an cdv ct) ⟨us, []⟩ = pure (ps.zip us)) : Binds K fd ps [] := by
  obtain ⟨oc, od, kV, doc, pm, an, cdv, ct, osl, rfl, lk, hcd⟩ := F.ex
  exact .all (h kV doc pm an cdv ct)
theorem fun_mk {x qual : Str} {st : Stmt} {f : Addr} {oc : Value} {od an : Option Addr} {osl : Array (Option Value)} {kV doc pm cdv ct : Value} (l : K.lookup f = some ⟨oc, od, .func (PySem.W.fnOf x qual (defArgs st) (defBody st) (defScope st) .none kV doc pm an cdv ct), osl⟩)
    (c : PySem.W.codeIn K cdv qual = true) (k : PySem.W.keepIn K (.ref f) = true) : Fun K x qual st f (PySem.W.fnOf x qual (defArgs st) (defBody st) (defScope st) .none kV doc pm an cdv ct) := ⟨⟨oc, od, kV, doc, pm, an, cdv, ct, osl, rfl, l, c⟩, k⟩
end

/-! ### expressions in short: the name that stands in the i-th slot -/
section
variable {X : Cx}
theorem pv (i : Nat) {x : Str} {pos : Pos} (hN : X.N[i]? = some x := by rfl) (hv : Vis X.env.scope x := by first | exact Or.inl rfl | exact Or.inr (Or.inl rfl) | exact Or.inr (Or.inr rfl)) (hd : (x == ("__debug__" : Str)) = false := by decide)
    (hcd : (x == ("__classdict__" : Str)) = false := by decide) : PE X (.Name x pos) (tVar i) := pe_var hN hv hd hcd
end

/-! ### tests -/
theorem iteF {A B : Prop} (h : B) : if false = true then A else B := by
  rw [if_neg Bool.false_ne_true]
  exact h
theorem iteT {A B : Prop} (h : A) : if true = true then A else B := by
  rw [if_pos rfl]
  exact h

/-! ### heaps -/
/-- all that was tracked is as it was -/
def Same (H H' : Hp) : Prop := ∀ b o, H b = some o → H' b = some o
theorem Same.refl (H : Hp) : Same H H := fun _ _ h => h
theorem Same.trans {H H1 H2 : Hp} (a : Same H H1) (b : Same H1 H2) : Same H H2 := fun c o h => b c o (a c o h)
theorem Same.free {H H' : Hp} (e : Same H H') {l : Addr} (h : H' l = Option.none) : H l = Option.none := by
  cases q : H l with
  | none => rfl
  | some o =>
    rw [e l o q] at h
    cases h
theorem Same.seq {K : PySem.W.Frag} {H H' : Hp} {a : Addr} {xs : List V} (e : Same H H') (h : SqL K H a xs) : SqL K H' a xs := by
  rcases h with (h | ⟨o, h⟩) | h
  · exact .inl (.inl (e _ _ h))
  · exact .inl (.inr ⟨o, e _ _ h⟩)
  · exact .inr h

/-! ### a dict's pairs: keys that differ -/
section
variable {κ : Type} [DecidableEq κ]
end
/-! ### lists -/
theorem at_of {xs : List V} {z : Int} {j : Nat} {v : V} (e : z = (j : Int)) (h : xs[j]? = some v) : atI xs z = some v := by
  rw [e]
  exact atI_nat h
/-- a new instance and its __init__ leave all that was tracked as it was -/
theorem Same.made {H H1 : Hp} {x dx C : Addr} (nx : H x = Option.none) (nd : H dx = Option.none) (k : ∀ b o, (upd (upd H dx (.own x)) x (.ins C dx [])) b = some o → b ≠ x → H1 b = some o) : Same H H1 := fun b o e =>
  k b o (by rw [upd_ne (ne_of_none e nx), upd_ne (ne_of_none e nd)]; exact e) (ne_of_none e nx)
end L2

set_option Elab.async false
set_option linter.all false
set_option maxRecDepth 100000
/-! A spec row's call by the hand layer: arguments are whole numbers and lists of whole numbers, the answer a list of whole numbers. -/
namespace Sq
open PySem PySem.W L2 PyProof.Rows

inductive Arg where
  | int (i : Int)
  | lst (ns : List Int)
def Arg.w : Arg → WData
  | .int i => .int i
  | .lst ns => .list (ns.map .int)
def Arg.fits : Arg → Prop
  | .int _ => True
  | .lst ns => ns.length ≤ sizeLine

/-- the value that bears an argument -/
inductive ArgAt (K : PySem.W.Frag) (H : Hp) : Arg → V → Prop
  | int (i : Int) : ArgAt K H (.int i) (.int i)
  | lst {ns : List Int} {a : Addr} : SqL K H a (ns.map V.int) → ArgAt K H (.lst ns) (.ref a)

/-- a plain list stands there -/
def LstAt (h : Heap) (b : Addr) (o : Obj) (xs : List V) : Prop :=
  h.get? b = some o ∧ xs.length ≤ sizeLine ∧ ∃ its : List Value, Vals xs its ∧ o = { cls := .type "list", data := .seq its.toArray }
theorem LstAt.inj {h : Heap} {b : Addr} {o o' : Obj} {xs xs' : List V} (x : LstAt h b o xs) (y : LstAt h b o' xs') : o = o' ∧ xs = xs' := by
  obtain ⟨e, _, its, r, rfl⟩ := x
  obtain ⟨e', _, its', r', rfl⟩ := y
  rw [e] at e'
  have q := Option.some.inj e'
  injection q with q1 q2 q3
  injection q3 with q4
  have q5 : its = its' := by injection q4
  subst q5
  exact ⟨rfl, r.inj r'⟩

open Classical in
/-- the plain lists among As that are not the module's, known to the object -/
noncomputable def H0 (K : PySem.W.Frag) (h : Heap) (As : List Addr) : Hp := fun b =>
  if hb : (b ∈ As ∧ K.lookup b = none) ∧ ∃ p : Obj × List V, LstAt h b p.1 p.2 then some (.frz hb.2.choose.1 (.lst hb.2.choose.2)) else none

theorem H0_some {K : PySem.W.Frag} {h : Heap} {As : List Addr} {b : Addr} {u : HO} (e : H0 K h As b = some u) : b ∈ As ∧ K.lookup b = none ∧ ∃ o xs, u = .frz o (.lst xs) ∧ LstAt h b o xs := by
  unfold H0 at e
  split at e
  · rename_i hb
    have e' := Option.some.inj e
    exact ⟨hb.1.1, hb.1.2, _, _, e'.symm, hb.2.choose_spec⟩
  · cases e
theorem H0_of {K : PySem.W.Frag} {h : Heap} {As : List Addr} {b : Addr} {o : Obj} {xs : List V} (hA : b ∈ As) (hK : K.lookup b = none) (x : LstAt h b o xs) : H0 K h As b = some (.frz o (.lst xs)) := by
  unfold H0
  have hb : (b ∈ As ∧ K.lookup b = none) ∧ ∃ p : Obj × List V, LstAt h b p.1 p.2 := ⟨⟨hA, hK⟩, (o, xs), x⟩
  rw [dif_pos hb]
  obtain ⟨e1, e2⟩ := hb.2.choose_spec.inj x
  rw [e1, e2]
theorem H0_only {K : PySem.W.Frag} {h : Heap} {As : List Addr} : Only (H0 K h As) := fun b => by
  cases e : H0 K h As b with
  | none => exact .inl rfl
  | some u =>
    obtain ⟨_, _, o, xs, rfl, _⟩ := H0_some e
    exact .inr ⟨o, xs, rfl⟩
theorem H0_ok {P : Program} {w : World} {K : PySem.W.Frag} {h : Heap} {As : List Addr} : HOk P w (H0 K h As) h := fun b u e => by
  obtain ⟨_, _, o, xs, rfl, e1, hz, its, r, rfl⟩ := H0_some e
  exact ⟨e1, hz, its, _, r, e1⟩

/-- the addresses among values -/
def adrs : List Value → List Addr := fun vs => vs.filterMap fun v => match v with | .ref a => some a | _ => none
theorem mem_adrs {vs : List Value} {a : Addr} (h : Value.ref a ∈ vs) : a ∈ adrs vs := List.mem_filterMap.mpr ⟨_, h, rfl⟩

theorem lst_of_well {P : Params} {h : Heap} {a : Addr} {ns : List Int} (hz : ns.length ≤ sizeLine) (x : Well P h (.ref a) (.list (ns.map WData.int))) : ∃ o, LstAt h a o (ns.map V.int) := by
  cases x with
  | list ho hall =>
    have hi := Att.ints_of_wellAll ns _ hall
    exact ⟨_, ho, by rw [List.length_map]; exact hz, _, vals_ints hi, rfl⟩
theorem args_at {P : Params} {K : PySem.W.Frag} {h : Heap} (KX : K.In h) (As : List Addr) : ∀ (args : List Arg) (vals : List Value), (∀ a ∈ args, a.fits) → (∀ a, Value.ref a ∈ vals → a ∈ As) → WellAll P h vals (args.map Arg.w) →
    ∃ vs, Paired (ArgAt K (H0 K h As)) args vs ∧ Vals vs vals
  | [], _, _, _, hw => by
    cases hw
    exact ⟨[], .nil, .nil⟩
  | .int i :: r, _, hf, hA, hw => by
    cases hw with
    | cons h1 h2 =>
      obtain ⟨vs, p, q⟩ := args_at KX As r _ (fun a ha => hf a (List.mem_cons_of_mem _ ha)) (fun a ha => hA a (List.mem_cons_of_mem _ ha)) h2
      cases h1 with
      | int _ t => exact ⟨.int i :: vs, .cons (.int i) p, .cons ⟨t, rfl⟩ q⟩
  | .lst ns :: r, _, hf, hA, hw => by
    cases hw with
    | @cons v vs' d ds h1 h2 =>
      obtain ⟨vs, p, q⟩ := args_at KX As r _ (fun a ha => hf a (List.mem_cons_of_mem _ ha)) (fun a ha => hA a (List.mem_cons_of_mem _ ha)) h2
      have hz : ns.length ≤ sizeLine := hf (.lst ns) (List.mem_cons_self ..)
      have h1' : Well P h v (.list (ns.map WData.int)) := h1
      obtain ⟨a, rfl⟩ : ∃ a, v = .ref a := by
        cases h1' with
        | list _ _ => exact ⟨_, rfl⟩
      obtain ⟨o, L⟩ := lst_of_well hz h1'
      refine ⟨.ref a :: vs, .cons (.lst ?_) p, .cons rfl q⟩
      cases hk : K.lookup a with
      | none => exact .inl (.inr ⟨o, H0_of (hA a (List.mem_cons_self ..)) hk L⟩)
      | some o' =>
        obtain ⟨e1, z, its, rv, rfl⟩ := L
        have e := KX a o' hk
        rw [e1] at e
        cases e
        exact .inr ⟨_, its.toArray, _, hk, rfl, rfl, rfl, by rw [List.size_toArray, ← rv.length]; exact z, by simpa using rv⟩

theorem reads_ints {R : WRecords} {cl : Str → Option Addr} {h : Heap} : ∀ {ns : List Int} {us : List Value}, Vals (ns.map V.int) us → ReadsAllW R cl h us (ns.map WData.int) []
  | [], _, r => by
    cases r
    exact .nil
  | n :: ns, _, r => by
    have r' : Vals (V.int n :: ns.map V.int) _ := r
    cases r' with
    | cons r1 r2 =>
      obtain ⟨t, rfl⟩ := r1
      exact .cons (as := []) (bs := []) (.int n t) (reads_ints r2)

theorem spec_call {P : Program} {w : World} {K : PySem.W.Frag} {mg mb : Str → Option Value} {k : Nat} {fa : Addr} {fd : FuncData} {ps : List Str} {sp : Sp} {s₁ : Shared} {vals : List Value} {args : List Arg} {out : List Int} {cl : Str → Option Addr}
    (KX : K.In s₁.heap) (hns : s₁.heap.Ns mainGlobals mg) (hb : s₁.heap.Ns builtinsNs mb) (hbb : ∀ x : Str, x ≠ "__name__" → mb x = bootBuiltins x) (hlim : s₁.heap.NoLimit) (hg : s₁.gens = #[])
    (hwell : WellAll w.params s₁.heap vals (args.map Arg.w)) (hfit : ∀ a ∈ args, a.fits) (hr : Room k callerA)
    (F : ∀ base : Heap, K.In base → base.Ns mainGlobals mg → FnOk P w K mg base CX0 k fa fd ps sp) (hbind : ∀ (s : Shared) (us : List Value), us.length = ps.length → BindsTo s fd ⟨us, []⟩ (ps.zip us))
    (hsp : ∀ (H : Hp) (vs : List V), Only H → Paired (ArgAt K H) args vs → sp vs H (fun v H' => ∃ p, v = .ref p ∧ SqL K H' p (out.map V.int)) fun _ _ _ => False) :
    codeAny (model P w) callerA (.call (.ref fa) ⟨vals, []⟩) (fun r s' => (∃ v as, r = .ok (.ret v) ∧ ReadsW [] cl s'.heap v (.list (out.map WData.int)) as) ∧ OldK s₁.heap s'.heap ∧ s'.os = s₁.os ∧ AllBare s'.gens) s₁ := by
  obtain ⟨vs, hp, hv⟩ := args_at KX (adrs vals) args vals hfit (fun a ha => mem_adrs ha) hwell
  generalize hH : H0 K s₁.heap (adrs vals) = H at hp
  have hO : Only H := hH ▸ H0_only
  have hok : HOk P w H s₁.heap := hH ▸ H0_ok
  have hsome : ∀ b u, H b = some u → K.lookup b = none ∧ ∃ o xs, LstAt s₁.heap b o xs := fun b u e => by
    rw [← hH] at e
    obtain ⟨_, h1, o, xs, _, h2⟩ := H0_some e
    exact ⟨h1, o, xs, h2⟩
  have base_of : ∀ {b : Addr} {o : Obj}, s₁.heap.get? b = some o → H b = none → (hidT s₁.heap H).get? b = some o := fun e n => hidT_get e n
  have noA : ∀ {b : Addr} {o : Obj} {es : Array DictEntry} {ep : Nat}, s₁.heap.get? b = some o → o.data = .dict es ep → H b = none := fun {b o es ep} e d => by
    cases q : H b with
    | none => rfl
    | some u =>
      obtain ⟨_, o', xs, e1, _, its, _, rfl⟩ := hsome b u q
      rw [e1] at e; cases e
      cases d
  have nsK : ∀ {b : Addr} {m : Str → Option Value}, s₁.heap.Ns b m → (hidT s₁.heap H).Ns b m := fun {b m} ⟨o, es, ep, e, d, r⟩ => ⟨o, es, ep, base_of e (noA e d), d, r⟩
  have hKn : ∀ b o, K.lookup b = some o → H b = none := fun b o e => by
    cases q : H b with
    | none => rfl
    | some u =>
      rw [(hsome b u q).1] at e; cases e
  have hKb : K.In (hidT s₁.heap H) := fun b o e => base_of (KX b o e) (hKn b o e)
  have hM : Mod K mg (hidT s₁.heap H) := ⟨hKb, nsK hns, ⟨mb, nsK hb, hbb⟩, let ⟨mc, h1, h2⟩ := hlim; ⟨mc, nsK h1, h2⟩⟩
  have e0 : Env0 P w K mg (hidT s₁.heap H) callerA [] s₁ H := ⟨rfl, hM, fun b o e => of_hidT e, Nat.le_of_eq (hidT_size _ _), trivial, fun b hb => absurd (show b ∈ ([] : List Addr) from hb) (by simp), hok, .of_eq hg⟩
  have hsp' := hsp H vs hO hp
  have hl : vals.length = ps.length := by rw [← hv.length]; exact (F _ hKb (nsK hns)).len _ _ _ _ hsp'
  refine codeAny_mono ((F _ hKb (nsK hns)).run callerA [] s₁ H ⟨vals, []⟩ vals vs _ _ hr e0 (hbind s₁ vals hl) hv hsp') fun r s' h => ?_
  cases r with
  | error e => exact False.elim h
  | ok fl =>
    cases fl with
    | next => exact False.elim h
    | brk => exact False.elim h
    | cont => exact False.elim h
    | ret u =>
      obtain ⟨v, H', os, bare, un, hok', r', p, rfl, hS⟩ := h
      obtain rfl : u = Value.ref p := r'
      have keep : ∀ b o, s₁.heap.get? b = some o → s'.heap.get? b = some o := fun b o e => by
        cases q : H b with
        | none => exact un.keep b o e q (by intro z; exact absurd (show b ∈ ([] : List Addr) from z) (by simp)) (by simp)
        | some u =>
          rcases hO b with z | ⟨ob, xs, z⟩
          · rw [q] at z; cases z
          · have z2 := un.frzs b ob _ z
            obtain ⟨e1, _⟩ := hok b _ z
            obtain ⟨e2, _⟩ := hok' b _ z2
            rw [e] at e1; cases e1
            exact e2
      refine ⟨⟨.ref p, [p], rfl, ?_⟩, OldK.of_keep keep, os, bare⟩
      rcases hS with hS | ⟨o, its, n, hk, hc, hd, hs, hz, rv⟩
      · obtain ⟨z, its, n, rv, e⟩ := hS.ok hok'
        exact .list (as := []) e rfl rfl (reads_ints (by simpa using rv))
      · exact .list (as := []) (keep p o (KX p o hk)) hc hs (reads_ints rv)

theorem spec_walk {r : OpenSpec} {q : Program} {loose : List Str} {XP : (Str → Option Value) → Heap → Prop} {YP : World → Heap → Prop} {d : DefRec} {K : Params → PySem.W.Frag} {k : Nat} {ps : List Str} {sp : PySem.W.Frag → Sp}
    (hdf : d.params.defaults = []) (hr : Room k callerA) (hY : ∀ (w : World) (h : Heap), YP w h → (K w.params).In h)
    (F : ∀ (w : World) (mg : Str → Option Value) (fa : Addr) (h : Heap), (K w.params).In h → h.Ns mainGlobals mg → mg d.name = some (.ref fa) →
      ∃ fd : FuncData, (∀ (s : Shared) (us : List Value), us.length = ps.length → BindsTo s fd ⟨us, []⟩ (ps.zip us)) ∧
        ∀ base : Heap, (K w.params).In base → base.Ns mainGlobals mg → FnOk r.prog w (K w.params) mg base CX0 k fa fd ps (sp (K w.params)))
    (S : ∀ as, r.pre as = true → ∃ (args : List Arg) (out : List Int), as = args.map Arg.w ∧ (∀ a ∈ args, a.fits) ∧ r.post as (.list (out.map WData.int)) = true ∧
      ∀ (K : PySem.W.Frag) (H : Hp) (vs : List V), Only H → Paired (ArgAt K H) args vs → sp K vs H (fun v H' => ∃ p, v = .ref p ∧ SqL K H' p (out.map V.int)) fun _ _ _ => False) :
    WalkOS q loose XP YP r d [] (fun f vs => PySem.call f vs) := by
  intro w s₀ s₁ mg mb G Y fa o pm cd doc dV kV ho hd hcd hD hmg hg args vals as hpre hlay hrd hwl hlo
  obtain ⟨ar, out, rfl, hfit, hpost, hsp⟩ := S args hpre
  have KX := hY w _ Y
  obtain ⟨fd, hb, hF⟩ := F w mg fa _ KX G.T.g hmg
  refine enter_call (codeAny_mono (spec_call (cl := classAt s₀.heap) KX G.T.g G.T.b G.T.builtins G.T.nolimit hg hwl hfit hr hF hb (hsp (K w.params))) fun r' s' hq => ?_)
  obtain ⟨⟨v, as', rfl, hrd'⟩, h2, h3, h4⟩ := hq
  exact ⟨.inl ⟨v, _, as', rfl, fun _ => rfl, hrd', hpost, fun h => absurd h Bool.false_ne_true⟩, h2, h3, h4⟩
end Sq

set_option Elab.async false
set_option linter.all false
set_option maxRecDepth 100000
namespace Lm
open PySem L2
/-- a whole number of the module's top, by its name -/
theorem pgi {X : Cx} {x : Str} {pos : Pos} {i : Int} (hm : ∃ t, X.mg x = some (.int i t)) (hg : Gl X x := by rfl) (hd : (x == ("__debug__" : Str)) = false := by decide) : PE X (.Name x pos) (tC (.int i)) := by
  obtain ⟨t, e⟩ := hm
  exact pe_glob hg e ⟨t, rfl⟩ hd
theorem dec_int (a b : Int) : decide (V.int a = V.int b) = decide (a = b) := by
  by_cases e : a = b
  · subst e; simp
  · have h : ¬ V.int a = V.int b := fun q => e (V.int.inj q)
    rw [decide_eq_false h, decide_eq_false e]
/-- tests: what stands behind `if c = true then .. else ..` -/
theorem ifD {c A B : Prop} [Decidable c] (h1 : c → A) (h2 : ¬ c → B) : if decide c = true then A else B := by
  by_cases h : c
  · rw [if_pos (decide_eq_true h)]; exact h1 h
  · rw [if_neg (by rw [decide_eq_false h]; exact Bool.false_ne_true)]; exact h2 h
theorem ifB {b : Bool} {A B : Prop} (h1 : b = true → A) (h2 : b = false → B) : if b = true then A else B := by
  cases b with
  | true => exact h1 rfl
  | false => exact h2 rfl
theorem ifN {b : Bool} {A B : Prop} (h1 : b = false → A) (h2 : b = true → B) : if (!b) = true then A else B := by
  cases b with
  | true => exact h2 rfl
  | false => exact h1 rfl
theorem ifE {a b : Int} {A B : Prop} (h1 : a = b → A) (h2 : a ≠ b → B) : if decide (V.int a = V.int b) = true then A else B := by
  rw [dec_int]; exact ifD h1 h2
theorem ifNE {a b : Int} {A B : Prop} (h1 : a ≠ b → A) (h2 : a = b → B) : if (!decide (V.int a = V.int b)) = true then A else B := by
  rw [dec_int]
  by_cases h : a = b
  · rw [decide_eq_true h]; exact h2 h
  · rw [decide_eq_false h]; exact h1 h

/-! ### lists of whole numbers, lists of such lists -/
abbrev IL (K : PySem.W.Frag) (H : Hp) (a : Addr) (ns : List Int) : Prop := SqL K H a (ns.map V.int)
abbrev Rows (K : PySem.W.Frag) (H : Hp) (as : List Addr) (rows : List (List Int)) : Prop := Paired (fun a r => IL K H a r) as rows
def RowsAt (K : PySem.W.Frag) (H : Hp) (a : Addr) (rows : List (List Int)) : Prop := ∃ as, SqL K H a (as.map V.ref) ∧ Rows K H as rows
theorem Rows.same {K : PySem.W.Frag} {H H' : Hp} (s : Same H H') {as : List Addr} {rows : List (List Int)} (h : Rows K H as rows) : Rows K H' as rows := Paired.mapP h fun _ _ z => s.seq z
theorem RowsAt.same {K : PySem.W.Frag} {H H' : Hp} (s : Same H H') {a : Addr} {rows : List (List Int)} (h : RowsAt K H a rows) : RowsAt K H' a rows := by
  obtain ⟨as, h1, h2⟩ := h
  exact ⟨as, s.seq h1, Rows.same s h2⟩
theorem Same.new {H : Hp} {p : Addr} {o : HO} (h : H p = none) : Same H (upd H p o) := fun b u e => by
  rw [upd_ne (ne_of_none e h)]; exact e
theorem Same.old {H H' : Hp} {p : Addr} {o : HO} (s : Same H H') (h : H p = none) : Same H (upd H' p o) := fun b u e => by
  rw [upd_ne (ne_of_none e h)]; exact s b u e
theorem Rows.len {K : PySem.W.Frag} {H : Hp} {as : List Addr} {rows : List (List Int)} (h : Rows K H as rows) : as.length = rows.length := Paired.length h
theorem Rows.get {K : PySem.W.Frag} {H : Hp} : ∀ {as : List Addr} {rows : List (List Int)} {i : Nat} {r : List Int}, Rows K H as rows → rows[i]? = some r → ∃ a, as[i]? = some a ∧ IL K H a r
  | _, _, _, _, .nil, e => by simp at e
  | _, _, 0, _, .cons h _, e => by simp at e; subst e; exact ⟨_, rfl, h⟩
  | _, _, i + 1, r, .cons _ t, e => by
    obtain ⟨u, h1, h2⟩ := Rows.get (i := i) (r := r) t (by simpa using e)
    exact ⟨u, by simpa using h1, h2⟩
theorem Rows.getA {K : PySem.W.Frag} {H : Hp} : ∀ {as : List Addr} {rows : List (List Int)} {i : Nat} {a : Addr}, Rows K H as rows → as[i]? = some a → ∃ r, rows[i]? = some r ∧ IL K H a r
  | _, _, _, _, .nil, e => by simp at e
  | _, _, 0, _, .cons h _, e => by simp at e; subst e; exact ⟨_, rfl, h⟩
  | _, _, i + 1, r, .cons _ t, e => by
    obtain ⟨u, h1, h2⟩ := Rows.getA (i := i) t (by simpa using e)
    exact ⟨u, by simpa using h1, h2⟩
theorem Rows.snoc {K : PySem.W.Frag} {H : Hp} : ∀ {as : List Addr} {rows : List (List Int)} {a : Addr} {r : List Int}, Rows K H as rows → IL K H a r → Rows K H (as ++ [a]) (rows ++ [r])
  | _, _, _, _, .nil, e => .cons e .nil
  | _, _, _, _, .cons h t, e => .cons h (Rows.snoc t e)
theorem map_get_int {ns : List Int} {i : Nat} {y : V} (hi : (ns.map V.int)[i]? = some y) : ∃ z, ns[i]? = some z ∧ y = V.int z := by
  rw [List.getElem?_map] at hi
  cases e : ns[i]? with
  | none => rw [e] at hi; cases hi
  | some z => rw [e] at hi; exact ⟨z, rfl, (Option.some.inj hi).symm⟩
theorem map_get_ref {as : List Addr} {i : Nat} {y : V} (hi : (as.map V.ref)[i]? = some y) : ∃ z, as[i]? = some z ∧ y = V.ref z := by
  rw [List.getElem?_map] at hi
  cases e : as[i]? with
  | none => rw [e] at hi; cases hi
  | some z => rw [e] at hi; exact ⟨z, rfl, (Option.some.inj hi).symm⟩
theorem at_int {ns : List Int} {z : Int} {j : Nat} {v : Int} (h : ns[j]? = some v) (e : z = (j : Int) := by omega) : atI (ns.map V.int) z = some (V.int v) := at_of e (by rw [List.getElem?_map, h]; rfl)
theorem at_ref {as : List Addr} {z : Int} {j : Nat} {v : Addr} (h : as[j]? = some v) (e : z = (j : Int) := by omega) : atI (as.map V.ref) z = some (V.ref v) := at_of e (by rw [List.getElem?_map, h]; rfl)
end Lm
/-! ### == of two lists of whole numbers -/
namespace Lm
open PySem L2
theorem eqv_ints : ∀ ns ms : List Int, PyData.eqvAll (ns.map PyData.int) (ms.map PyData.int) = decide (ns = ms)
  | [], [] => by simp [PyData.eqvAll]
  | [], _ :: _ => by simp [PyData.eqvAll]
  | _ :: _, [] => by simp [PyData.eqvAll]
  | a :: r, b :: t => by
    simp only [List.map_cons, PyData.eqvAll, PyData.eqv, eqv_ints r t]
    by_cases h : a = b <;> by_cases h' : r = t <;> simp [h, h']
theorem dp_ints {K : PySem.W.Frag} {H : Hp} : ∀ ns : List Int, DpAll K H (ns.map V.int) (ns.map PyData.int)
  | [] => .nil
  | n :: r => .cons (.int n) (dp_ints r)
def rEqI (K : PySem.W.Frag) : R2 := fun x y H Q => ∃ a b ns ms, x = .ref a ∧ y = .ref b ∧ IL K H a ns ∧ IL K H b ms ∧ Q (.bl (decide (ns = ms))) H
theorem op_eqI {X : Cx} (hu : X.A.units + 64 < cLine) : OpR X (compareOp .Eq) (rEqI X.K) := by
  intro pins s σ H x y v u Q I rx ry h
  obtain ⟨a, b, ns, ms, rfl, rfl, ha, hb, q⟩ := h
  refine op_eqD hu pins s σ H _ _ v u Q I rx ry ⟨.list (ns.map PyData.int), .list (ms.map PyData.int), .lst ha (dp_ints ns), .lst hb (dp_ints ms), PySem.W.shaped_ints ns, PySem.W.shaped_ints ms, ?_⟩
  simp only [PyData.eqv]
  rw [eqv_ints]
  exact q
end Lm
namespace Lm
open PySem L2
theorem SqL.agree {K : PySem.W.Frag} {H H3 : Hp} {a : Addr} {xs : List V} (e : H3 a = H a) (h : SqL K H a xs) : SqL K H3 a xs := by
  rcases h with (h1 | ⟨o, h1⟩) | h1
  · exact .inl (.inl (by rw [e]; exact h1))
  · exact .inl (.inr ⟨o, by rw [e]; exact h1⟩)
  · exact .inr h1
theorem Rows.agree {K : PySem.W.Frag} {H H3 : Hp} {as : List Addr} {ls : List (List Int)} (h : Rows K H as ls) : (∀ x ∈ as, H3 x = H x) → Rows K H3 as ls := by
  induction h with
  | nil => exact fun _ => .nil
  | cons h1 _ ih => exact fun e => .cons (SqL.agree (e _ (List.mem_cons_self ..)) h1) (ih fun x hx => e x (List.mem_cons_of_mem _ hx))
end Lm
/-! ### what the top has written -/
namespace Lm
open PySem L2
/-- a def as it stands behind the top -/
structure DefAt (K : PySem.W.Frag) (mg : Str → Option Value) (x : Str) (st : Stmt) (f : Addr) (fd : FuncData) : Prop where
  F : Fun K x x st f fd
  g : mg x = some (.ref f)
  k : PySem.W.keepIn K (.ref f) = true
theorem def_mk {K : PySem.W.Frag} {h : Heap} {mg : Str → Option Value} {x : Str} {st : Stmt} {f : Addr} {od an : Option Addr} {sl : Array (Option Value)} {oc kV dc pm cd ct : Value} (X : K.In h) (G : h.Ns mainGlobals mg)
    (a : PySem.W.nsIn K mainGlobals x = some (some (.ref f))) (l : K.lookup f = some ⟨oc, od, .func (PySem.W.fnOf x x (defArgs st) (defBody st) (defScope st) .none kV dc pm an cd ct), sl⟩)
    (c : PySem.W.codeIn K cd x = true) (k : PySem.W.keepIn K (.ref f) = true) : ∃ (f : Addr) (fd : FuncData), DefAt K mg x st f fd :=
  ⟨f, _, fun_mk (st := st) l c k, PySem.W.mg_of X G a, k⟩
theorem int_mk {K : PySem.W.Frag} {h : Heap} {mg : Str → Option Value} {x : Str} {i : Int} {t : Tok} (X : K.In h) (G : h.Ns mainGlobals mg) (a : PySem.W.nsIn K mainGlobals x = some (some (.int i t))) : ∃ t, mg x = some (.int i t) :=
  ⟨t, PySem.W.mg_of X G a⟩
theorem Fun.bindsTo {K : PySem.W.Frag} {x qual : Str} {st : Stmt} {f : Addr} {fd : FuncData} {ps : List Str} (F : Fun K x qual st f fd)
    (h : ∀ (kV doc pm : Value) (an : Option Addr) (cdv ct : Value) (us : List Value), us.length = ps.length → bindArgs (PySem.W.fnOf x qual (defArgs st) (defBody st) (defScope st) .none kV doc pm an cdv ct) ⟨us, []⟩ = pure (ps.zip us)) :
    ∀ (s : Shared) (us : List Value), us.length = ps.length → BindsTo s fd ⟨us, []⟩ (ps.zip us) := by
  obtain ⟨oc, od, kV, doc, pm, an, cdv, ct, osl, rfl, lk, hcd⟩ := F.ex
  exact fun s us hl => .of_eq (h kV doc pm an cdv ct us hl)
end Lm

set_option Elab.async false
set_option linter.all false
/-! The mirrors of judge's defs, in plain Lean. -/
namespace Lm
def isPat (ns : List Int) : Bool := decide (1 ≤ ns.length) && (decide (ns.length ≤ 8) && ns.all fun n => decide (n = 46) || decide (n = 45))
def isLine (ns : List Int) : Bool :=
  if ns.length < 3 then false
  else if ns.getD 0 0 < 33 ∨ 126 < ns.getD 0 0 then false
  else if ns.getD 1 0 ≠ 32 ∨ ns.getD (ns.length - 1) 0 ≠ 10 then false
  else isPat ((ns.drop 2).take (ns.length - 1 - 2))
theorem getD_get {ns : List Int} {i : Nat} (h : i < ns.length) : ns[i]? = some (ns.getD i 0) := by
  rw [List.getD_eq_getElem?_getD, List.getElem?_eq_getElem h]; rfl
def stands (rows : List (List Int)) (n : Nat) : Bool := (rows.take n).any fun r => decide (r.drop 1 = (rows.getD n []).drop 1)
theorem getD_row {rows : List (List Int)} {i : Nat} (h : i < rows.length) : rows[i]? = some (rows.getD i []) := by
  rw [List.getD_eq_getElem?_getD, List.getElem?_eq_getElem h]; rfl
def fault (rows : List (List Int)) (n : Nat) : Int :=
  if 64 ≤ n ∨ isLine (rows.getD n []) = false then 1
  else if 0 < n ∧ (rows.getD n []).getD 0 0 ≤ (rows.getD (n - 1) []).getD 0 0 then 2
  else if stands rows n = true then 3 else 0
def tabFault (rows : List (List Int)) : List Int :=
  if rows.length = 0 then [1, 0] else match (List.range rows.length).find? fun n => decide (fault rows n ≠ 0) with
    | some n => [fault rows n, n]
    | none => []
theorem find_range {p : Nat → Bool} {n i : Nat} (hi : i < n) (h : p i = true) (hb : ∀ j, j < i → p j = false) : (List.range n).find? p = some i := by
  rw [List.find?_range_eq_some]
  exact ⟨h, List.mem_range.mpr hi, fun j hj => by rw [hb j hj]; rfl⟩
theorem find_range_none {p : Nat → Bool} {n : Nat} (hb : ∀ j, j < n → p j = false) : (List.range n).find? p = none := by
  rw [List.find?_eq_none]
  intro j hj
  rw [hb j (List.mem_range.mp hj)]
  exact Bool.false_ne_true
def spStep (st : List (List Int) × List Int) (b : Int) : List (List Int) × List Int :=
  if b = 10 then (st.1 ++ [st.2 ++ [b]], []) else (st.1, st.2 ++ [b])
def spEnd (st : List (List Int) × List Int) : List (List Int) := if 0 < st.2.length then st.1 ++ [st.2] else st.1
def splitM (t : List Int) : List (List Int) := spEnd (t.foldl spStep ([], []))
theorem sp_sizes (t : List Int) : ∀ st : List (List Int) × List Int, ((t.foldl spStep st).1.length + (t.foldl spStep st).2.length ≤ st.1.length + st.2.length + t.length) := by
  induction t with
  | nil => intro st; simp
  | cons b r ih =>
    intro st
    rw [List.foldl_cons, List.length_cons]
    have h := ih (spStep st b)
    have h2 : (spStep st b).1.length + (spStep st b).2.length ≤ st.1.length + st.2.length + 1 := by
      unfold spStep
      split
      · simp; try omega
      · simp; try omega
    omega
theorem spl_ne (t : List Int) : ∀ st : List (List Int) × List Int, (∀ r ∈ st.1, r ≠ []) → ∀ r ∈ (t.foldl spStep st).1, r ≠ [] := by
  induction t with
  | nil => intro st h; exact h
  | cons b r ih =>
    intro st h
    rw [List.foldl_cons]
    refine ih _ ?_
    unfold spStep
    split
    · intro x hx
      rcases List.mem_append.mp hx with h1 | h1
      · exact h x h1
      · simp at h1; subst h1; simp
    · exact h
theorem splitM_ne (t : List Int) : ∀ r ∈ splitM t, r ≠ [] := by
  have h := spl_ne t ([], []) (by simp)
  unfold splitM spEnd
  split
  · rename_i h0
    intro r hr
    rcases List.mem_append.mp hr with h1 | h1
    · exact h r h1
    · simp at h1; subst h1; exact List.length_pos_iff.mp h0
  · exact h
theorem splitM_len (t : List Int) : (splitM t).length ≤ t.length := by
  have h := sp_sizes t ([], [])
  unfold splitM spEnd
  split
  · rename_i h0
    rw [List.length_append]
    simp at h ⊢
    omega
  · simp at h
    omega
def judgeM (t : List Int) : List Int :=
  if 65536 < t.length then [-2] else if 0 < (tabFault (splitM t)).length then -6 :: tabFault (splitM t) else [((splitM t).length : Int)]
theorem tabFault_len (rows : List (List Int)) : (tabFault rows).length ≤ 2 := by
  unfold tabFault
  split
  · simp
  · split <;> simp
end Lm

set_option Elab.async false
set_option linter.all false
namespace Lm
open FlagsLamp
def up (bs : List UInt8) : List Int := bs.map fun b => (b.toNat : Int)
theorem up_cons (b : UInt8) (r : List UInt8) : up (b :: r) = (b.toNat : Int) :: up r := rfl
theorem up_len (bs : List UInt8) : (up bs).length = bs.length := List.length_map ..
theorem u8_lit (b : UInt8) (n : Nat) (h : n < 256) : ((b.toNat : Int) = (n : Int)) ↔ b = UInt8.ofNat n := by
  constructor
  · intro e
    have : b.toNat = n := by omega
    apply UInt8.toNat_inj.mp
    rw [this, UInt8.toNat_ofNat']
    omega
  · rintro rfl
    rw [UInt8.toNat_ofNat']
    omega
theorem up_ofInts {t : List Int} (h : ∀ x ∈ t, 0 ≤ x ∧ x ≤ 255) : up (t.map fun n => UInt8.ofNat n.toNat) = t := by
  unfold up
  rw [List.map_map]
  conv => rhs; rw [← List.map_id t]
  refine List.map_congr_left fun x hx => ?_
  have := h x hx
  show ((UInt8.ofNat x.toNat).toNat : Int) = x
  rw [UInt8.toNat_ofNat']
  omega
theorem bytes_ok {t : List Int} (h : ∀ x ∈ t, 0 ≤ x ∧ x ≤ 255) : LampNeutral.text? t = some (t.map fun n => UInt8.ofNat n.toNat) := by
  have e : NeutralIO.bytes t = true := by
    unfold NeutralIO.bytes
    rw [List.all_eq_true]
    intro x hx
    have := h x hx
    simp [this.1, this.2]
  unfold LampNeutral.text?
  rw [if_pos e]

/-! ### lines -/
theorem cut_ne (bs : List UInt8) : cutLines bs ≠ [] := by
  cases bs with
  | nil => simp [cutLines]
  | cons x r =>
    unfold cutLines
    split
    · simp
    · split <;> simp
theorem cut_no10 : ∀ (bs : List UInt8), ∀ w ∈ cutLines bs, (10 : UInt8) ∉ w
  | [], w, h => by simp [cutLines] at h; subst h; simp
  | x :: r, w, h => by
    have ih := cut_no10 r
    unfold cutLines at h
    split at h
    · rcases List.mem_cons.mp h with e | h
      · subst e; simp
      · exact ih w h
    · rename_i hx
      split at h
      · simp at h; subst h; simp; exact fun e => hx e.symm
      · rename_i w' l e
        rcases List.mem_cons.mp h with e' | h
        · subst e'
          have := ih w' (by rw [e]; exact List.mem_cons_self ..)
          simp only [List.mem_cons, not_or]
          exact ⟨fun q => hx q.symm, this⟩
        · exact ih w (by rw [e]; exact List.mem_cons_of_mem _ h)
def glue : List Int → List (List UInt8) → List (List Int)
  | _, [] => []
  | cur, [w] => if cur ++ up w = [] then [] else [cur ++ up w]
  | cur, w :: v :: r => (cur ++ up w ++ [10]) :: glue [] (v :: r)
theorem glue_cons (cur : List Int) (w : List UInt8) {r : List (List UInt8)} (h : r ≠ []) : glue cur (w :: r) = (cur ++ up w ++ [10]) :: glue [] r := by
  cases r with
  | nil => exact absurd rfl h
  | cons v r => rfl
theorem split_glue : ∀ (bs : List UInt8) (ls : List (List Int)) (cur : List Int), spEnd ((up bs).foldl spStep (ls, cur)) = ls ++ glue cur (cutLines bs)
  | [], ls, cur => by
    show spEnd (ls, cur) = ls ++ glue cur [[]]
    unfold spEnd glue
    have e : cur ++ up [] = cur := by simp [up]
    rw [e]
    cases cur with
    | nil => simp
    | cons a r => simp
  | x :: r, ls, cur => by
    rw [up_cons, List.foldl_cons]
    by_cases hx : x = 10
    · subst hx
      have e1 : spStep (ls, cur) (((10 : UInt8).toNat : Nat) : Int) = (ls ++ [cur ++ [10]], []) := rfl
      have e2 : cutLines ((10 : UInt8) :: r) = [] :: cutLines r := by
        rw [cutLines]; rfl
      rw [e1, e2, split_glue r, glue_cons cur [] (cut_ne r)]
      simp [up]
    · have hx' : ¬ ((x.toNat : Int) = 10) := fun e => hx ((u8_lit x 10 (by decide)).mp e)
      have e1 : spStep (ls, cur) (x.toNat : Int) = (ls, cur ++ [(x.toNat : Int)]) := by
        unfold spStep; rw [if_neg hx']
      rw [e1, split_glue r]
      congr 1
      cases hc : cutLines r with
      | nil => exact absurd hc (cut_ne r)
      | cons w l =>
        have e2 : cutLines (x :: r) = (x :: w) :: l := by
          rw [cutLines, if_neg hx, hc]
        rw [e2]
        cases l with
        | nil => simp [glue, up]
        | cons v l => simp [glue, up]
theorem splitM_glue (bs : List UInt8) : splitM (up bs) = glue [] (cutLines bs) := by
  unfold splitM
  rw [split_glue]; rfl

/-! ### a line -/
def sgn (b : Bool) : Int := if b = true then 45 else 46
def lineOf (x : Letter) : List Int := (x.byte.toNat : Int) :: 32 :: (x.signs.map sgn ++ [10])
theorem sgn_inj {a b : Bool} (h : sgn a = sgn b) : a = b := by
  cases a <;> cases b <;> simp [sgn] at h ⊢
theorem map_sgn_inj : ∀ {a b : List Bool}, a.map sgn = b.map sgn → a = b
  | [], [], _ => rfl
  | [], _ :: _, h => by simp at h
  | _ :: _, [], h => by simp at h
  | x :: r, y :: t, h => by
    rw [List.map_cons, List.map_cons] at h
    rw [sgn_inj (List.cons.inj h).1, map_sgn_inj (List.cons.inj h).2]
theorem signs_yes : ∀ (r : List UInt8) (l : List Bool), r.mapM signOf = some l → up r = l.map sgn
  | [], l, h => by
    simp at h; subst h; rfl
  | c :: r, l, h => by
    rw [List.mapM_cons] at h
    cases hc : signOf c with
    | none => rw [hc] at h; simp at h
    | some b =>
      rw [hc] at h
      cases hr : r.mapM signOf with
      | none => rw [hr] at h; simp at h
      | some l' =>
        rw [hr] at h
        simp at h
        subst h
        rw [up_cons, List.map_cons, signs_yes r l' hr]
        congr 1
        unfold signOf at hc
        split at hc
        · rename_i e; cases hc; subst e; rfl
        · split at hc
          · rename_i e; cases hc; subst e; rfl
          · cases hc
theorem signs_no : ∀ (r : List UInt8), r.mapM signOf = none → ((up r).all fun n => decide (n = 46) || decide (n = 45)) = false
  | [], h => by simp at h
  | c :: r, h => by
    rw [List.mapM_cons] at h
    rw [up_cons, List.all_cons]
    cases hc : signOf c with
    | none =>
      have h45 : ¬ ((c.toNat : Int) = 45) := fun e => by
        have := (u8_lit c 45 (by decide)).mp e
        subst this; cases hc
      have h46 : ¬ ((c.toNat : Int) = 46) := fun e => by
        have := (u8_lit c 46 (by decide)).mp e
        subst this; cases hc
      simp [h45, h46]
    | some b =>
      rw [hc] at h
      cases hr : r.mapM signOf with
      | none => rw [signs_no r hr, Bool.and_false]
      | some l' => rw [hr] at h; simp at h
theorem all_sgn : ∀ l : List Bool, ((l.map sgn).all fun n => decide (n = 46) || decide (n = 45)) = true
  | [] => rfl
  | b :: l => by
    rw [List.map_cons, List.all_cons, all_sgn l]
    cases b <;> rfl
theorem isLine_form (c d : Int) (r : List Int) : isLine (c :: d :: (r ++ [10])) = (decide (33 ≤ c) && (decide (c ≤ 126) && (decide (d = 32) && isPat r))) := by
  unfold isLine
  have hl : (c :: d :: (r ++ [10])).length = r.length + 3 := by simp
  rw [hl, if_neg (by omega)]
  have e0 : (c :: d :: (r ++ [10])).getD 0 0 = c := rfl
  have e1 : (c :: d :: (r ++ [10])).getD 1 0 = d := rfl
  have e2 : (c :: d :: (r ++ [10])).getD (r.length + 3 - 1) 0 = 10 := by
    rw [show r.length + 3 - 1 = r.length + 1 + 1 by omega]
    show (r ++ [10]).getD r.length 0 = 10
    rw [List.getD_eq_getElem?_getD, List.getElem?_append_right (Nat.le_refl _)]
    simp
  have e3 : ((c :: d :: (r ++ [10])).drop 2).take (r.length + 3 - 1 - 2) = r := by
    show (r ++ [10]).take (r.length + 3 - 1 - 2) = r
    rw [show r.length + 3 - 1 - 2 = r.length by omega, List.take_left']
    rfl
  rw [e0, e1, e2, e3]
  by_cases h1 : c < 33 ∨ 126 < c
  · rw [if_pos h1]
    rcases h1 with h | h
    · have : ¬ 33 ≤ c := by omega
      simp [this]
    · have : ¬ c ≤ 126 := by omega
      simp [this]
  · rw [if_neg h1]
    have a : 33 ≤ c := by omega
    have b : c ≤ 126 := by omega
    by_cases h2 : d = 32
    · rw [if_neg (by simp [h2])]
      simp [a, b, h2]
    · rw [if_pos (.inl h2)]
      simp [h2]
theorem isLine_short {ns : List Int} (h : ns.length < 3) : isLine ns = false := by
  unfold isLine; rw [if_pos h]
theorem letter_some {w : List UInt8} {x : Letter} (h : letterIn w = some x) : up w ++ [10] = lineOf x ∧ isLine (lineOf x) = true := by
  unfold letterIn at h
  split at h
  · rename_i c r
    cases hm : r.mapM signOf with
    | none => rw [hm] at h; simp at h
    | some l =>
      rw [hm] at h
      simp only [Option.bind_some] at h
      split at h
      · rename_i hf
        cases h
        have e := signs_yes r l hm
        refine ⟨?_, ?_⟩
        · rw [up_cons, up_cons, e]; rfl
        · show isLine ((c.toNat : Int) :: 32 :: (l.map sgn ++ [10])) = true
          rw [isLine_form]
          unfold Letter.fine SIGNS at hf
          simp only [Bool.and_eq_true, decide_eq_true_eq] at hf
          obtain ⟨f1, f2, f3, f4⟩ := hf
          have g1 : (33 : Int) ≤ (c.toNat : Int) := by omega
          have g2 : (c.toNat : Int) ≤ 126 := by omega
          unfold isPat
          rw [all_sgn, List.length_map]
          simp [g1, g2, f3, f4]
      · cases h
  · cases h
theorem letter_none {w : List UInt8} (h : letterIn w = none) : isLine (up w ++ [10]) = false := by
  match w, h with
  | [], _ => exact isLine_short (by simp [up])
  | [a], _ => exact isLine_short (by simp [up])
  | c :: d :: r, h =>
    rw [up_cons, up_cons, List.cons_append, List.cons_append, isLine_form]
    by_cases hd : d = 32
    · subst hd
      have h' : ((r.mapM signOf).bind fun (l : List Bool) => if Letter.fine ⟨c, l⟩ = true then some (⟨c, l⟩ : Letter) else none) = none := h
      cases hm : r.mapM signOf with
      | none =>
        have e := signs_no r hm
        unfold isPat
        rw [e]
        simp
      | some l =>
        rw [hm] at h'
        simp only [Option.bind_some] at h'
        split at h'
        · cases h'
        · rename_i hf
          have e := signs_yes r l hm
          have el : r.length = l.length := by
            have := congrArg List.length e
            rw [up_len, List.length_map] at this
            exact this
          unfold Letter.fine SIGNS at hf
          unfold isPat
          rw [up_len, el]
          simp only [Bool.and_eq_true, decide_eq_true_eq] at hf
          by_cases f1 : 33 ≤ c.toNat
          · by_cases f2 : c.toNat ≤ 126
            · by_cases f3 : 1 ≤ l.length
              · have f4 : ¬ l.length ≤ 8 := fun f4 => hf ⟨f1, f2, f3, f4⟩
                simp [f4]
              · simp [f3]
            · have g : ¬ (c.toNat : Int) ≤ 126 := by omega
              simp [g]
          · have g : ¬ (33 : Int) ≤ (c.toNat : Int) := by omega
            simp [g]
    · have : ¬ ((d.toNat : Int) = 32) := fun e => hd ((u8_lit d 32 (by decide)).mp e)
      simp [this]
theorem isLine_no10 {w : List UInt8} (h : (10 : UInt8) ∉ w) : isLine (up w) = false := by
  unfold isLine
  rw [up_len]
  split
  · rfl
  · rename_i hl
    split
    · rfl
    · rw [if_pos]
      right
      intro e
      have hlt : w.length - 1 < w.length := by omega
      have e2 : (up w).getD (w.length - 1) 0 = ((w[w.length - 1]'hlt).toNat : Int) := by
        rw [List.getD_eq_getElem?_getD]
        unfold up
        rw [List.getElem?_map, List.getElem?_eq_getElem hlt]; rfl
      rw [e2] at e
      have := (u8_lit _ 10 (by decide)).mp e
      have m := List.getElem_mem hlt
      rw [this] at m
      exact h m
end Lm

set_option Elab.async false
set_option linter.all false
namespace Lm
open FlagsLamp
theorem tab_at {rows : List (List Int)} {i : Nat} {k : Int} (hi : i < rows.length) (hk : fault rows i = k) (hk0 : k ≠ 0) (hb : ∀ j, j < i → fault rows j = 0) : tabFault rows = [k, (i : Int)] := by
  unfold tabFault
  rw [if_neg (by omega), find_range (p := fun n => decide (fault rows n ≠ 0)) hi (decide_eq_true (by rw [hk]; exact hk0)) (fun j hj => decide_eq_false (by simpa using hb j hj))]
  simp [hk]
theorem tab_none {rows : List (List Int)} (h0 : rows.length ≠ 0) (hb : ∀ j, j < rows.length → fault rows j = 0) : tabFault rows = [] := by
  unfold tabFault
  rw [if_neg h0, find_range_none (p := fun n => decide (fault rows n ≠ 0)) (fun j hj => decide_eq_false (by simpa using hb j hj))]
theorem getD_at (done : List (List Int)) (r : List Int) (rest : List (List Int)) : (done ++ r :: rest).getD done.length [] = r := by
  rw [List.getD_eq_getElem?_getD, List.getElem?_append_right (Nat.le_refl _)]
  simp
theorem lineOf_drop (x : Letter) : (lineOf x).drop 1 = 32 :: (x.signs.map sgn ++ [10]) := rfl
theorem lineOf_zero (x : Letter) : (lineOf x).getD 0 0 = (x.byte.toNat : Int) := rfl
theorem drop_iff (x y : Letter) : ((lineOf y).drop 1 = (lineOf x).drop 1) ↔ y.signs = x.signs := by
  rw [lineOf_drop, lineOf_drop]
  constructor
  · intro h
    exact map_sgn_inj (List.append_cancel_right (List.cons.inj h).2)
  · intro h
    rw [h]
theorem stands_at (past : List Letter) (x : Letter) (rest : List (List Int)) : stands (past.map lineOf ++ lineOf x :: rest) past.length = past.any fun y => y.signs == x.signs := by
  unfold stands
  have e1 : (past.map lineOf ++ lineOf x :: rest).take past.length = past.map lineOf := List.take_left' (by rw [List.length_map])
  have e2 : (past.map lineOf ++ lineOf x :: rest).getD past.length [] = lineOf x := by
    have := getD_at (past.map lineOf) (lineOf x) rest
    rw [List.length_map] at this
    exact this
  rw [e1, e2, List.any_map]
  congr 1
  funext y
  show decide ((lineOf y).drop 1 = (lineOf x).drop 1) = (y.signs == x.signs)
  rw [Bool.eq_iff_iff, decide_eq_true_eq, beq_iff_eq]
  exact drop_iff x y
theorem prev_at (past : List Letter) (y : Letter) (r : List Int) (rest : List (List Int)) (h : past.getLast? = some y) : (past.map lineOf ++ r :: rest).getD (past.length - 1) [] = lineOf y := by
  have hp : past ≠ [] := by intro e; subst e; simp at h
  have hl : 0 < past.length := List.length_pos_iff.mpr hp
  rw [List.getD_eq_getElem?_getD, List.getElem?_append_left (by rw [List.length_map]; omega), List.getElem?_map]
  rw [List.getLast?_eq_getElem?] at h
  rw [h]; rfl

def notAbove (past : List Letter) (x : Letter) : Bool := match past.getLast? with
  | some y => decide (x.byte.toNat ≤ y.byte.toNat)
  | none => false
theorem wrong_eq (past : List Letter) (x : Letter) : wrongBehind past x = if notAbove past x = true then some 2 else if (past.any fun y => y.signs == x.signs) = true then some 3 else none := by
  unfold wrongBehind notAbove
  cases past.getLast? <;> rfl
theorem lines_eq : ∀ (rest : List (List UInt8)) (past : List Letter), rest ≠ [] → (∀ w ∈ rest, (10 : UInt8) ∉ w) → (∀ j, j < past.length → fault (past.map lineOf ++ glue [] rest) j = 0) →
    match judgeLines past.length past rest with
    | .error (k, i) => tabFault (past.map lineOf ++ glue [] rest) = [(k : Int), (i : Int)]
    | .ok T => tabFault (past.map lineOf ++ glue [] rest) = [] ∧ (past.map lineOf ++ glue [] rest).length = T.length
  | [], _, h, _, _ => absurd rfl h
  | [w], past, _, hw, hb => by
    unfold judgeLines
    by_cases hc : w ≠ [] ∨ past = []
    · rw [if_pos hc]
      show tabFault (past.map lineOf ++ glue [] [w]) = [((1 : Nat) : Int), (past.length : Int)]
      by_cases hwe : w = []
      · have hp : past = [] := hc.resolve_left (fun q => q hwe)
        subst hwe; subst hp
        rfl
      · have eg : glue [] [w] = [up w] := by
          unfold glue
          rw [if_neg]
          · rfl
          · intro e
            have := congrArg List.length e
            rw [List.nil_append, up_len] at this
            exact hwe (List.length_eq_zero_iff.mp this)
        rw [eg] at hb ⊢
        refine tab_at (k := 1) (by simp) ?_ (by decide) hb
        unfold fault
        have e2 : (past.map lineOf ++ [up w]).getD past.length [] = up w := by
          have := getD_at (past.map lineOf) (up w) []
          rw [List.length_map] at this
          exact this
        rw [e2, isLine_no10 (hw w (List.mem_singleton.mpr rfl)), if_pos (.inr rfl)]
    · rw [if_neg hc]
      have hwe : w = [] := Classical.byContradiction fun q => hc (.inl q)
      have hp : past ≠ [] := fun q => hc (.inr q)
      subst hwe
      have eg : glue [] [([] : List UInt8)] = [] := rfl
      rw [eg, List.append_nil] at hb ⊢
      refine ⟨tab_none ?_ (fun j hj => hb j (by rw [List.length_map] at hj; exact hj)), by rw [List.length_map]⟩
      rw [List.length_map]
      exact fun q => hp (List.length_eq_zero_iff.mp q)
  | w :: v :: r, past, _, hw, hb => by
    have hr : v :: r ≠ [] := by simp
    have eg : glue [] (w :: v :: r) = (up w ++ [10]) :: glue [] (v :: r) := by rw [glue_cons [] w hr]; rfl
    rw [eg] at hb ⊢
    have e2 : (past.map lineOf ++ (up w ++ [10]) :: glue [] (v :: r)).getD past.length [] = up w ++ [10] := by
      have := getD_at (past.map lineOf) (up w ++ [10]) (glue [] (v :: r))
      rw [List.length_map] at this
      exact this
    have hlt : past.length < (past.map lineOf ++ (up w ++ [10]) :: glue [] (v :: r)).length := by
      rw [List.length_append, List.length_map, List.length_cons]; omega
    have ej : judgeLines past.length past (w :: v :: r) = match letterIn w with
      | none => .error (1, past.length)
      | some x => if LETTERS ≤ past.length then .error (1, past.length) else match wrongBehind past x with
        | some e => .error (e, past.length)
        | none => judgeLines (past.length + 1) (past ++ [x]) (v :: r) := by
      rw [judgeLines]
      · cases letterIn w <;> rfl
      · exact fun q => hr q
    rw [ej]
    cases hL : letterIn w with
    | none =>
      show tabFault _ = [((1 : Nat) : Int), (past.length : Int)]
      refine tab_at (k := 1) hlt ?_ (by decide) hb
      unfold fault
      rw [e2, letter_none hL, if_pos (.inr rfl)]
    | some x =>
      obtain ⟨ew, hx⟩ := letter_some hL
      rw [ew] at hb hlt e2 ⊢
      by_cases h64 : LETTERS ≤ past.length
      · simp only [if_pos h64]
        show tabFault _ = [((1 : Nat) : Int), (past.length : Int)]
        refine tab_at (k := 1) hlt ?_ (by decide) hb
        unfold fault
        rw [if_pos (.inl h64)]
      · simp only [if_neg h64]
        have h64' : ¬ (64 ≤ past.length ∨ isLine (lineOf x) = false) := by
          rw [hx]
          simp
          exact Nat.lt_of_not_le h64
        have hst := stands_at past x (glue [] (v :: r))
        -- is the letter not above
        have h2 : (0 < past.length ∧ ((lineOf x).getD 0 0 ≤ ((past.map lineOf ++ lineOf x :: glue [] (v :: r)).getD (past.length - 1) []).getD 0 0)) ↔ notAbove past x = true := by
          unfold notAbove
          cases hg : past.getLast? with
          | none =>
            have : past = [] := List.getLast?_eq_none_iff.mp hg
            subst this
            simp
          | some y =>
            have hp : past ≠ [] := by intro e; subst e; simp at hg
            have hl : 0 < past.length := List.length_pos_iff.mpr hp
            rw [prev_at past y _ _ hg, lineOf_zero, lineOf_zero]
            simp only [decide_eq_true_eq]
            omega
        rw [wrong_eq]
        by_cases c2 : notAbove past x = true
        · rw [if_pos c2]
          show tabFault _ = [((2 : Nat) : Int), (past.length : Int)]
          refine tab_at (k := 2) hlt ?_ (by decide) hb
          unfold fault
          rw [e2, if_neg h64', if_pos (h2.mpr c2)]
        · rw [if_neg c2]
          have c2' : ¬ (0 < past.length ∧ ((lineOf x).getD 0 0 ≤ ((past.map lineOf ++ lineOf x :: glue [] (v :: r)).getD (past.length - 1) []).getD 0 0)) := fun q => c2 (h2.mp q)
          by_cases c3 : (past.any fun y => y.signs == x.signs) = true
          · rw [if_pos c3]
            show tabFault _ = [((3 : Nat) : Int), (past.length : Int)]
            refine tab_at (k := 3) hlt ?_ (by decide) hb
            unfold fault
            rw [e2, if_neg h64', if_neg c2', hst, if_pos c3]
          · rw [if_neg c3]
            have h0 : fault (past.map lineOf ++ lineOf x :: glue [] (v :: r)) past.length = 0 := by
              unfold fault
              rw [e2, if_neg h64', if_neg c2', hst, if_neg c3]
            have er : past.map lineOf ++ lineOf x :: glue [] (v :: r) = (past ++ [x]).map lineOf ++ glue [] (v :: r) := by simp
            have ih := lines_eq (v :: r) (past ++ [x]) hr (fun w' h' => hw w' (List.mem_cons_of_mem _ h')) (fun j hj => by
              rw [← er]
              rw [List.length_append, List.length_singleton] at hj
              by_cases hjl : j = past.length
              · rw [hjl]; exact h0
              · exact hb j (by omega))
            rw [← er, List.length_append, List.length_singleton] at ih
            exact ih
def flat (a : FlagsG7.Reply) : List Int := a.ret :: ((a.nums.map fun (n : Nat) => (n : Int)) ++ a.bytes.map fun (b : UInt8) => (b.toNat : Int))
theorem f_flat {c : LampNeutral.Call} {x : FlagsG7.Call} (h : LampNeutral.callOf c = some x) : LampNeutral.f c = flat (FlagsG7.answer x) := by
  unfold LampNeutral.f
  rw [h]
  rfl
theorem judge_ans (bs : List UInt8) : FlagsG7.answer (.judge bs) = if 65536 < bs.length then FlagsG7.MUCH else match FlagsLamp.judge bs with
    | .error e => FlagsG7.tells (-6) [e.1, e.2]
    | .ok T => FlagsG7.says (List.length T : Nat) := rfl
/-- what table_fault and the lines say of a table's text -/
theorem judged (bs : List UInt8) : match FlagsLamp.judge bs with
      | .error (k, i) => tabFault (splitM (up bs)) = [(k : Int), (i : Int)]
      | .ok T => tabFault (splitM (up bs)) = [] ∧ (splitM (up bs)).length = T.length := by
  have key := lines_eq (cutLines bs) [] (cut_ne bs) (cut_no10 bs) (fun j hj => absurd hj (Nat.not_lt_zero j))
  rw [List.map_nil, List.nil_append, ← splitM_glue bs] at key
  exact key
theorem judge_eq (t : List Int) (h : ∀ x ∈ t, 0 ≤ x ∧ x ≤ 255) : judgeM t = PyWqbacy.judge t := by
  have ht := up_ofInts h
  have hb := bytes_ok h
  generalize hbs : (t.map fun n => UInt8.ofNat n.toNat) = bs at ht hb
  have hlen : t.length = bs.length := by rw [← hbs, List.length_map]
  have ec : LampNeutral.callOf [[1], t] = some (.judge bs) := by
    show (LampNeutral.text? t).bind (fun x => some (FlagsG7.Call.judge x)) = _
    rw [hb]
    rfl
  have es : PyWqbacy.judge t = flat (FlagsG7.answer (.judge bs)) := f_flat ec
  rw [es, judge_ans]
  unfold judgeM
  by_cases h1 : 65536 < t.length
  · rw [if_pos h1, if_pos (show 65536 < bs.length by omega)]
    rfl
  · rw [if_neg h1, if_neg (show ¬ 65536 < bs.length by omega)]
    have key := judged bs
    rw [ht] at key
    cases hj : FlagsLamp.judge bs with
    | error e =>
      obtain ⟨k, i⟩ := e
      rw [hj] at key
      have q : tabFault (splitM t) = [(k : Int), (i : Int)] := key
      rw [q]
      rfl
    | ok T =>
      rw [hj] at key
      obtain ⟨q1, q2⟩ := key
      rw [q1, q2]
      rfl
end Lm

set_option Elab.async false
set_option linter.all false
/-! What a judged table is. -/
namespace Lm
open FlagsLamp
/-- a table as the document has it -/
structure Good (T : Table) : Prop where
  fine : ∀ x ∈ T, Letter.fine x = true
  rise : T.Pairwise fun x y => x.byte.toNat < y.byte.toNat
  apart : T.Pairwise fun x y => x.signs ≠ y.signs
  most : T.length ≤ 64
theorem fine_of_letter {w : List UInt8} {x : Letter} (h : letterIn w = some x) : Letter.fine x = true := by
  unfold letterIn at h
  split at h
  · rename_i c r
    cases hm : r.mapM signOf with
    | none => rw [hm] at h; simp at h
    | some l =>
      rw [hm] at h
      simp only [Option.bind_some] at h
      split at h
      · rename_i hf
        cases h
        exact hf
      · cases h
  · cases h
theorem rise_last {T : Table} (h : T.Pairwise fun x y => x.byte.toNat < y.byte.toNat) {y : Letter} (hy : T.getLast? = some y) : ∀ x ∈ T, x.byte.toNat ≤ y.byte.toNat := by
  intro x hx
  obtain ⟨T', rfl⟩ : ∃ T', T = T' ++ [y] := List.getLast?_eq_some_iff.mp hy
  rcases List.mem_append.mp hx with h1 | h1
  · exact Nat.le_of_lt ((List.pairwise_append.mp h).2.2 x h1 y (List.mem_singleton.mpr rfl))
  · rw [List.mem_singleton.mp h1]; exact Nat.le_refl _
theorem lines_ok : ∀ (rest : List (List UInt8)) (past : List Letter) (T : Table), rest ≠ [] → Good past → judgeLines past.length past rest = .ok T → Good T ∧ T ≠ [] ∧ past.map lineOf ++ glue [] rest = T.map lineOf
  | [], _, _, h, _, _ => absurd rfl h
  | [w], past, T, _, hg, h => by
    unfold judgeLines at h
    by_cases hc : w ≠ [] ∨ past = []
    · rw [if_pos hc] at h; cases h
    · rw [if_neg hc] at h
      cases h
      have hwe : w = [] := Classical.byContradiction fun q => hc (.inl q)
      subst hwe
      exact ⟨hg, fun q => hc (.inr q), by rw [show glue [] [([] : List UInt8)] = [] from rfl, List.append_nil]⟩
  | w :: v :: r, past, T, _, hg, h => by
    have hr : v :: r ≠ [] := by simp
    have eg : glue [] (w :: v :: r) = (up w ++ [10]) :: glue [] (v :: r) := by rw [glue_cons [] w hr]; rfl
    have ej : judgeLines past.length past (w :: v :: r) = match letterIn w with
      | none => .error (1, past.length)
      | some x => if LETTERS ≤ past.length then .error (1, past.length) else match wrongBehind past x with
        | some e => .error (e, past.length)
        | none => judgeLines (past.length + 1) (past ++ [x]) (v :: r) := by
      rw [judgeLines]
      · cases letterIn w <;> rfl
      · exact fun q => hr q
    rw [ej] at h
    cases hL : letterIn w with
    | none => rw [hL] at h; cases h
    | some x =>
      rw [hL] at h
      obtain ⟨ew, hx⟩ := letter_some hL
      by_cases h64 : LETTERS ≤ past.length
      · simp only [if_pos h64] at h; cases h
      · simp only [if_neg h64] at h
        rw [wrong_eq] at h
        by_cases c2 : notAbove past x = true
        · rw [if_pos c2] at h; cases h
        · rw [if_neg c2] at h
          by_cases c3 : (past.any fun y => y.signs == x.signs) = true
          · rw [if_pos c3] at h; cases h
          · rw [if_neg c3] at h
            have h' : judgeLines (past ++ [x]).length (past ++ [x]) (v :: r) = .ok T := by
              rw [List.length_append, List.length_singleton]; exact h
            have hg' : Good (past ++ [x]) := by
              refine ⟨fun y hy => ?_, ?_, ?_, ?_⟩
              · rcases List.mem_append.mp hy with q | q
                · exact hg.fine y q
                · rw [List.mem_singleton.mp q]; exact fine_of_letter hL
              · refine List.pairwise_append.mpr ⟨hg.rise, List.pairwise_singleton .., fun a ha b hb => ?_⟩
                rw [List.mem_singleton.mp hb]
                unfold notAbove at c2
                cases hl : past.getLast? with
                | none =>
                  rw [List.getLast?_eq_none_iff.mp hl] at ha
                  simp at ha
                | some y =>
                  rw [hl] at c2
                  have := rise_last hg.rise hl a ha
                  simp only [decide_eq_true_eq] at c2
                  omega
              · refine List.pairwise_append.mpr ⟨hg.apart, List.pairwise_singleton .., fun a ha b hb e => ?_⟩
                rw [List.mem_singleton.mp hb] at e
                exact c3 (List.any_eq_true.mpr ⟨a, ha, beq_iff_eq.mpr e⟩)
              · rw [List.length_append, List.length_singleton]
                have : ¬ 64 ≤ past.length := h64
                omega
            have ih := lines_ok (v :: r) (past ++ [x]) T hr hg' h'
            refine ⟨ih.1, ih.2.1, ?_⟩
            rw [← ih.2.2, eg, ew]
            simp
theorem judge_ok {bs : List UInt8} {T : Table} (h : FlagsLamp.judge bs = .ok T) : Good T ∧ T ≠ [] ∧ splitM (up bs) = T.map lineOf := by
  have hg : Good [] := ⟨by simp, .nil, .nil, by simp⟩
  have q := lines_ok (cutLines bs) [] T (cut_ne bs) hg h
  rw [List.map_nil, List.nil_append, ← splitM_glue] at q
  exact q
/-! ### finding -/
theorem Good.tail {x : Letter} {T : Table} (h : Good (x :: T)) : Good T :=
  ⟨fun y hy => h.fine y (List.mem_cons_of_mem _ hy), (List.pairwise_cons.mp h.rise).2, (List.pairwise_cons.mp h.apart).2, by have := h.most; rw [List.length_cons] at this; omega⟩
theorem Good.byte {T : Table} (h : Good T) {x : Letter} (hx : x ∈ T) : 33 ≤ x.byte.toNat ∧ x.byte.toNat ≤ 126 ∧ 1 ≤ x.signs.length ∧ x.signs.length ≤ 8 := by
  have := h.fine x hx
  unfold Letter.fine SIGNS at this
  simpa using this
theorem Good.find {T : Table} (h : Good T) {x : Letter} (hx : x ∈ T) : FlagsLamp.find T x.byte = some x := by
  unfold FlagsLamp.find
  induction T with
  | nil => simp at hx
  | cons y r ih =>
    rw [List.find?_cons]
    by_cases e : y.byte = x.byte
    · rcases List.mem_cons.mp hx with q | q
      · rw [q]; simp
      · have := (List.pairwise_cons.mp h.rise).1 x q
        rw [e] at this
        exact absurd this (Nat.lt_irrefl _)
    · rw [show (y.byte == x.byte) = false from beq_eq_false_iff_ne.mpr e]
      rcases List.mem_cons.mp hx with q | q
      · exact absurd (by rw [q]) e
      · exact ih h.tail q
theorem find_some {T : Table} {c : UInt8} {x : Letter} (h : FlagsLamp.find T c = some x) : x ∈ T ∧ x.byte = c := by
  unfold FlagsLamp.find at h
  exact ⟨List.mem_of_find?_eq_some h, by simpa using List.find?_some h⟩
theorem letterFor_some {T : Table} {l : List Bool} {c : UInt8} (h : letterFor T l = some c) : ∃ x ∈ T, x.signs = l ∧ x.byte = c := by
  unfold letterFor at h
  cases hf : List.find? (fun (x : Letter) => x.signs == l) T with
  | none => rw [hf] at h; cases h
  | some x =>
    rw [hf] at h
    exact ⟨x, List.mem_of_find?_eq_some hf, by simpa using List.find?_some hf, by simpa using h⟩
theorem Good.letterFor {T : Table} (h : Good T) {x : Letter} (hx : x ∈ T) : letterFor T x.signs = some x.byte := by
  unfold FlagsLamp.letterFor
  have : List.find? (fun (y : Letter) => y.signs == x.signs) T = some x := by
    induction T with
    | nil => simp at hx
    | cons y r ih =>
      rw [List.find?_cons]
      by_cases e : y.signs = x.signs
      · rcases List.mem_cons.mp hx with q | q
        · rw [q]; simp
        · exact absurd e ((List.pairwise_cons.mp h.apart).1 x q)
      · rw [show (y.signs == x.signs) = false from beq_eq_false_iff_ne.mpr e]
        rcases List.mem_cons.mp hx with q | q
        · exact absurd (by rw [q]) e
        · exact ih h.tail q
  rw [this]; rfl
theorem letterFor_none {T : Table} {l : List Bool} (h : letterFor T l = none) : ∀ x ∈ T, x.signs ≠ l := by
  unfold letterFor at h
  have := Option.map_eq_none_iff.mp h
  rw [List.find?_eq_none] at this
  intro x hx e
  exact this x hx (by simp [e])
/-! ### what is read is a text, but for its length -/
theorem bytesOf_text {T : Table} (hT : Good T) : ∀ (n : Nat) (l : List Nat) (had : List Bool) (b : List UInt8), l.length ≤ n → bytesOf T had l = some b →
    b ≠ [] ∧ (b.all fun c => c == 32 || (FlagsLamp.find T c).isSome) = true ∧ (∃ c r, b = c :: r ∧ c ≠ 32) ∧ b.getLast? ≠ some 32 ∧ noTwoBlanks b = true
  | 0, l, had, b, hn, h => by
    have : l = [] := List.length_eq_zero_iff.mp (Nat.le_zero.mp hn)
    subst this
    simp [bytesOf] at h
  | n + 1, [], had, b, hn, h => by simp [bytesOf] at h
  | n + 1, [x], had, b, hn, h => by
    unfold bytesOf at h
    split at h
    · cases hf : letterFor T (had ++ [x == 3]) with
      | none => rw [hf] at h; cases h
      | some c =>
        rw [hf] at h
        have h' : [c] = b := by simpa using h
        subst h'
        obtain ⟨y, hy, _, hc⟩ := letterFor_some hf
        have hne : c ≠ 32 := fun e => by
          have := (hT.byte hy).1
          rw [hc, e] at this
          exact absurd this (by decide)
        refine ⟨by simp, ?_, ⟨c, [], rfl, hne⟩, ?_, rfl⟩
        · have : (FlagsLamp.find T c).isSome = true := by rw [← hc, hT.find hy]; rfl
          simp [this]
        · simp [hne]
    · cases h
  | n + 1, x :: d :: r, had, b, hn, h => by
    have hr : r.length ≤ n := by simp at hn; omega
    unfold bytesOf at h
    split at h
    · cases h
    · split at h
      · exact bytesOf_text hT n r _ b hr h
      · cases hf : letterFor T (had ++ [x == 3]) with
        | none => rw [hf] at h; cases h
        | some c =>
          rw [hf] at h
          simp only [Option.bind_some] at h
          cases hb : bytesOf T [] r with
          | none => rw [hb] at h; cases h
          | some b' =>
            rw [hb] at h
            obtain ⟨y, hy, _, hc⟩ := letterFor_some hf
            have hne : c ≠ 32 := fun e => by
              have := (hT.byte hy).1
              rw [hc, e] at this
              exact absurd this (by decide)
            have hs : (FlagsLamp.find T c).isSome = true := by rw [← hc, hT.find hy]; rfl
            obtain ⟨h1, h2, ⟨c', r', e', hne'⟩, h4, h5⟩ := bytesOf_text hT n r [] b' hr hb
            subst e'
            have hl : (c' :: r').getLast? ≠ some 32 := h4
            simp only [Option.map_some, Option.some.injEq] at h
            split at h
            · subst h
              refine ⟨by simp, ?_, ⟨c, _, rfl, hne⟩, ?_, ?_⟩
              · rw [List.all_cons, h2]; simp [hs]
              · rw [List.getLast?_cons_cons]; exact hl
              · unfold noTwoBlanks
                rw [h5]; simp [hne]
            · subst h
              refine ⟨by simp, ?_, ⟨c, _, rfl, hne⟩, ?_, ?_⟩
              · rw [List.all_cons, List.all_cons, h2]; simp [hs]
              · rw [List.getLast?_cons_cons, List.getLast?_cons_cons]; exact hl
              · unfold noTwoBlanks
                unfold noTwoBlanks
                rw [h5]; simp [hne, hne']
theorem isText_read {T : Table} (hT : Good T) {l : List Nat} {b : List UInt8} (h : bytesOf T [] l = some b) : isText T b = decide (b.length ≤ 1024) := by
  obtain ⟨h1, h2, ⟨c, r, e, hne⟩, h4, h5⟩ := bytesOf_text hT l.length l [] b (Nat.le_refl _) h
  unfold isText LONGEST
  rw [h2, h5]
  have a1 : (b.getLast? != some 32) = true := by simpa using h4
  have a2 : (b.head? != some 32) = true := by rw [e]; simpa using hne
  have a3 : 1 ≤ b.length := List.length_pos_iff.mpr h1
  rw [a1, a2, decide_eq_true a3]
  simp
end Lm

set_option Elab.async false
set_option linter.all false
/-! Fractions of the specification, by whole numbers: mkRat a b with b > 0. -/
namespace Lm
theorem mk_le {a c : Int} {b d : Nat} (hb : b ≠ 0) (hd : d ≠ 0) : mkRat a b ≤ mkRat c d ↔ a * d ≤ c * b := by
  have hb' : (0 : Rat) < (b : Rat) := Rat.natCast_pos.mpr (Nat.pos_of_ne_zero hb)
  have hd' : (0 : Rat) < (d : Rat) := Rat.natCast_pos.mpr (Nat.pos_of_ne_zero hd)
  have e1 : mkRat a b * (b : Rat) = (a : Rat) := by rw [Rat.mkRat_eq_div, Rat.div_mul_cancel (Rat.ne_of_gt hb')]
  have e2 : mkRat c d * (d : Rat) = (c : Rat) := by rw [Rat.mkRat_eq_div, Rat.div_mul_cancel (Rat.ne_of_gt hd')]
  have h1 : mkRat a b * ((b : Rat) * (d : Rat)) = ((a * d : Int) : Rat) := by
    rw [← Rat.mul_assoc, e1, Rat.intCast_mul]; rfl
  have h2 : mkRat c d * ((b : Rat) * (d : Rat)) = ((c * b : Int) : Rat) := by
    rw [Rat.mul_comm (b : Rat), ← Rat.mul_assoc, e2, Rat.intCast_mul]; rfl
  constructor
  · intro h
    have := Rat.mul_le_mul_of_nonneg_right h (Rat.le_of_lt (Rat.mul_pos hb' hd'))
    rw [h1, h2] at this
    exact Rat.intCast_le_intCast.mp this
  · intro h
    refine Rat.le_of_mul_le_mul_right ?_ (Rat.mul_pos hb' hd')
    rw [h1, h2]
    exact Rat.intCast_le_intCast.mpr h
theorem mk_eq {a c : Int} {b d : Nat} (hb : b ≠ 0) (hd : d ≠ 0) : mkRat a b = mkRat c d ↔ a * d = c * b := Rat.mkRat_eq_iff hb hd
/-- 5 x over m k, as the specification writes it -/
theorem quot_mk (m k x : Nat) (hm : m ≠ 0) (hk : k ≠ 0) : 5 * (x : Rat) / ((m : Rat) * (k : Rat)) = mkRat ((5 * x : Nat) : Int) (m * k) := by
  rw [Rat.mkRat_eq_div]
  congr 1
  · show _ = (((5 * x : Nat) : Int) : Rat)
    rw [Int.natCast_mul, Rat.intCast_mul]; rfl
  · show _ = ((m * k : Nat) : Rat)
    rw [Rat.natCast_mul]
theorem max_mk {a c : Int} {b d : Nat} (hb : b ≠ 0) (hd : d ≠ 0) : max (mkRat a b) (mkRat c d) = if a * d ≤ c * b then mkRat c d else mkRat a b := by
  show (if mkRat a b ≤ mkRat c d then mkRat c d else mkRat a b) = _
  by_cases h : a * d ≤ c * b
  · rw [if_pos h, if_pos ((mk_le hb hd).mpr h)]
  · rw [if_neg h, if_neg fun q => h ((mk_le hb hd).mp q)]
theorem min_mk {a c : Int} {b d : Nat} (hb : b ≠ 0) (hd : d ≠ 0) : min (mkRat a b) (mkRat c d) = if a * d ≤ c * b then mkRat a b else mkRat c d := by
  show (if mkRat a b ≤ mkRat c d then mkRat a b else mkRat c d) = _
  by_cases h : a * d ≤ c * b
  · rw [if_pos h, if_pos ((mk_le hb hd).mpr h)]
  · rw [if_neg h, if_neg fun q => h ((mk_le hb hd).mp q)]
theorem parts_mk (a b : Nat) (hb : b ≠ 0) : FlagsG7.parts (mkRat (a : Int) b) = [a / Nat.gcd a b, b / Nat.gcd a b] := by
  unfold FlagsG7.parts
  rw [Rat.num_mkRat, Rat.den_mkRat, if_neg hb, if_neg hb, Int.natAbs_natCast, Nat.gcd_comm b a]
  congr 1
end Lm
namespace Lm
open FlagsLamp
def loOf (p : Nat × Nat) : Rat := mkRat ((5 * p.2 : Nat) : Int) (6 * p.1)
def hiOf (p : Nat × Nat) : Rat := mkRat ((5 * p.2 : Nat) : Int) (4 * p.1)
theorem rmax_le {a b q : Rat} : max a b ≤ q ↔ a ≤ q ∧ b ≤ q := by
  show (if a ≤ b then b else a) ≤ q ↔ _
  by_cases h : a ≤ b
  · rw [if_pos h]
    exact ⟨fun z => ⟨Rat.le_trans h z, z⟩, fun z => z.2⟩
  · rw [if_neg h]
    have h' : b ≤ a := (Rat.le_total).resolve_left h
    exact ⟨fun z => ⟨z, Rat.le_trans h' z⟩, fun z => z.1⟩
theorem le_rmin {a b q : Rat} : q ≤ min a b ↔ q ≤ a ∧ q ≤ b := by
  show q ≤ (if a ≤ b then a else b) ↔ _
  by_cases h : a ≤ b
  · rw [if_pos h]
    exact ⟨fun z => ⟨z, Rat.le_trans z h⟩, fun z => z.1⟩
  · rw [if_neg h]
    have h' : b ≤ a := (Rat.le_total).resolve_left h
    exact ⟨fun z => ⟨Rat.le_trans z h', z⟩, fun z => z.2⟩
theorem fold_max {α : Type} {f : α → Rat} {q : Rat} : ∀ (l : List α) (m : Rat), l.foldl (fun m x => max m (f x)) m ≤ q ↔ m ≤ q ∧ ∀ x ∈ l, f x ≤ q
  | [], m => by simp
  | x :: l, m => by
    rw [List.foldl_cons, fold_max l, rmax_le]
    constructor
    · rintro ⟨⟨h1, h2⟩, h3⟩
      refine ⟨h1, fun y hy => ?_⟩
      rcases List.mem_cons.mp hy with e | hy
      · subst e; exact h2
      · exact h3 y hy
    · rintro ⟨h1, h2⟩
      exact ⟨⟨h1, h2 x (List.mem_cons_self ..)⟩, fun y hy => h2 y (List.mem_cons_of_mem _ hy)⟩
theorem fold_min {α : Type} {f : α → Rat} {q : Rat} : ∀ (l : List α) (m : Rat), q ≤ l.foldl (fun m x => min m (f x)) m ↔ q ≤ m ∧ ∀ x ∈ l, q ≤ f x
  | [], m => by simp
  | x :: l, m => by
    rw [List.foldl_cons, fold_min l, le_rmin]
    constructor
    · rintro ⟨⟨h1, h2⟩, h3⟩
      refine ⟨h1, fun y hy => ?_⟩
      rcases List.mem_cons.mp hy with e | hy
      · subst e; exact h2
      · exact h3 y hy
    · rintro ⟨h1, h2⟩
      exact ⟨⟨h1, h2 x (List.mem_cons_self ..)⟩, fun y hy => h2 y (List.mem_cons_of_mem _ hy)⟩
theorem fold_congr {α β : Type} {f g : β → α → β} : ∀ (l : List α) (m : β), (∀ m, ∀ x ∈ l, f m x = g m x) → l.foldl f m = l.foldl g m
  | [], _, _ => rfl
  | x :: l, m, h => by
    rw [List.foldl_cons, List.foldl_cons, h m x (List.mem_cons_self ..)]
    exact fold_congr l _ fun m y hy => h m y (List.mem_cons_of_mem _ hy)
theorem lo_eq {p : Nat × Nat} (h : 0 < p.1) : 5 * (p.2 : Rat) / (6 * (p.1 : Rat)) = loOf p := quot_mk 6 p.1 p.2 (by decide) (by omega)
theorem hi_eq {p : Nat × Nat} (h : 0 < p.1) : 5 * (p.2 : Rat) / (4 * (p.1 : Rat)) = hiOf p := quot_mk 4 p.1 p.2 (by decide) (by omega)
theorem lo_nonneg (p : Nat × Nat) : 0 ≤ loOf p := by
  unfold loOf
  rw [← Rat.divInt_ofNat]
  exact Rat.divInt_nonneg (by omega) (by omega)
/-- the least unit is below q just if each time's is -/
theorem least_le {l : List (Nat × Nat)} (hk : ∀ p ∈ l, 0 < p.1) {q : Rat} : leastUnit l ≤ q ↔ 0 ≤ q ∧ ∀ p ∈ l, loOf p ≤ q := by
  unfold leastUnit
  rw [fold_congr l 0 (g := fun m x => max m (loOf x)) fun m x hx => by rw [lo_eq (hk x hx)]]
  exact fold_max l 0
theorem le_great {l : List (Nat × Nat)} (hl : l ≠ []) (hk : ∀ p ∈ l, 0 < p.1) {q : Rat} : q ≤ greatestUnit l ↔ ∀ p ∈ l, q ≤ hiOf p := by
  cases l with
  | nil => exact absurd rfl hl
  | cons y r =>
    unfold greatestUnit
    show q ≤ r.foldl _ (5 * (y.2 : Rat) / (4 * (y.1 : Rat))) ↔ _
    rw [hi_eq (hk y (List.mem_cons_self ..)), fold_congr r _ (g := fun m x => min m (hiOf x)) fun m x hx => by rw [hi_eq (hk x (List.mem_cons_of_mem _ hx))]]
    rw [fold_min r]
    constructor
    · rintro ⟨h1, h2⟩ p hp
      rcases List.mem_cons.mp hp with e | hp
      · subst e; exact h1
      · exact h2 p hp
    · intro h
      exact ⟨h y (List.mem_cons_self ..), fun p hp => h p (List.mem_cons_of_mem _ hp)⟩
theorem least_is {l : List (Nat × Nat)} (hk : ∀ p ∈ l, 0 < p.1) {q : Rat} (h1 : ∃ p ∈ l, q = loOf p) (h2 : ∀ p ∈ l, loOf p ≤ q) : leastUnit l = q := by
  obtain ⟨p, hp, rfl⟩ := h1
  refine Rat.le_antisymm ((least_le hk).mpr ⟨lo_nonneg p, h2⟩) ?_
  exact ((least_le hk).mp Rat.le_refl).2 p hp
theorem great_is {l : List (Nat × Nat)} (hk : ∀ p ∈ l, 0 < p.1) {q : Rat} (h1 : ∃ p ∈ l, q = hiOf p) (h2 : ∀ p ∈ l, q ≤ hiOf p) : greatestUnit l = q := by
  obtain ⟨p, hp, rfl⟩ := h1
  have hl : l ≠ [] := by intro e; subst e; simp at hp
  refine Rat.le_antisymm ?_ ((le_great hl hk).mpr h2)
  exact (le_great hl hk).mp Rat.le_refl p hp
/-- some unit fits all times just if each two times go together -/
theorem units_fit {l : List (Nat × Nat)} (hl : l ≠ []) (hk : ∀ p ∈ l, 0 < p.1) : leastUnit l ≤ greatestUnit l ↔ ∀ p ∈ l, ∀ p' ∈ l, 4 * p'.1 * p.2 ≤ 6 * p.1 * p'.2 := by
  have pos : ∀ p ∈ l, 0 ≤ hiOf p := fun p _ => by
    unfold hiOf
    rw [← Rat.divInt_ofNat]
    exact Rat.divInt_nonneg (by omega) (by omega)
  rw [least_le hk, le_great hl hk]
  have step : ∀ p ∈ l, ∀ p' ∈ l, (loOf p ≤ hiOf p' ↔ 4 * p'.1 * p.2 ≤ 6 * p.1 * p'.2) := fun p hp p' hp' => by
    have h1 := hk p hp
    have h2 := hk p' hp'
    unfold loOf hiOf
    rw [mk_le (by omega) (by omega)]
    have e1 : ((5 * p.2 : Nat) : Int) * ((4 * p'.1 : Nat) : Int) = ((5 * (4 * p'.1 * p.2) : Nat) : Int) := by
      rw [← Int.natCast_mul]
      congr 1
      ac_rfl
    have e2 : ((5 * p'.2 : Nat) : Int) * ((6 * p.1 : Nat) : Int) = ((5 * (6 * p.1 * p'.2) : Nat) : Int) := by
      rw [← Int.natCast_mul]
      congr 1
      ac_rfl
    rw [e1, e2]
    omega
  constructor
  · rintro ⟨_, h⟩ p hp p' hp'
    exact (step p hp p' hp').mp ((le_great hl hk).mp (h p hp) p' hp')
  · intro h
    exact ⟨pos, fun p hp => (le_great hl hk).mpr fun p' hp' => (step p hp p' hp').mpr (h p hp p' hp')⟩
end Lm

set_option Elab.async false
set_option linter.all false
/-! A reading's units are the classes that it was read by. -/
namespace Lm
open FlagsLamp
def pre (had : List Bool) : List Nat := had.flatMap fun s => [if s = true then 3 else 1, 1]
theorem pre_snoc (had : List Bool) (s : Bool) : pre (had ++ [s]) = pre had ++ [if s = true then 3 else 1, 1] := by
  unfold pre
  rw [List.flatMap_append]
  simp
theorem letterUnits_snoc : ∀ (had : List Bool) (s : Bool), letterUnits (had ++ [s]) = pre had ++ [if s = true then 3 else 1]
  | [], s => by simp [letterUnits, pre]
  | [a], s => by simp [letterUnits, pre]
  | a :: b :: r, s => by
    have ih := letterUnits_snoc (b :: r) s
    show letterUnits (a :: (b :: (r ++ [s]))) = _
    unfold letterUnits
    rw [show b :: (r ++ [s]) = (b :: r) ++ [s] from rfl, ih]
    simp [pre]
theorem signsOf_for {T : Table} (hT : Good T) {l : List Bool} {c : UInt8} (h : letterFor T l = some c) : signsOf T c = l ∧ c ≠ 32 := by
  obtain ⟨x, hx, h1, h2⟩ := letterFor_some h
  unfold signsOf
  rw [← h2, hT.find hx]
  refine ⟨h1, fun e => ?_⟩
  have := (hT.byte hx).1
  rw [e] at this
  exact absurd this (by decide)
theorem units_letter (T : Table) (c d : UInt8) (r : List UInt8) (h : d ≠ 32) : units T (c :: d :: r) = letterUnits (signsOf T c) ++ 3 :: units T (d :: r) := by
  rw [units]
  exact h
theorem units_blank (T : Table) (c : UInt8) (r : List UInt8) : units T (c :: 32 :: r) = letterUnits (signsOf T c) ++ 7 :: units T r := by
  rw [units]
theorem light_back {x : Nat} (h : x = 1 ∨ x = 3) : (if (x == 3) = true then 3 else 1) = x := by
  rcases h with rfl | rfl <;> rfl
theorem units_bytesOf {T : Table} (hT : Good T) : ∀ (n : Nat) (l : List Nat) (had : List Bool) (b : List UInt8), l.length ≤ n → (∀ x ∈ l, x = 1 ∨ x = 3 ∨ x = 7) → bytesOf T had l = some b → units T b = pre had ++ l
  | 0, l, had, b, hn, _, h => by
    have : l = [] := List.length_eq_zero_iff.mp (Nat.le_zero.mp hn)
    subst this
    simp [bytesOf] at h
  | n + 1, [], had, b, hn, _, h => by simp [bytesOf] at h
  | n + 1, [x], had, b, hn, _, h => by
    unfold bytesOf at h
    split at h
    · rename_i hx
      cases hf : letterFor T (had ++ [x == 3]) with
      | none => rw [hf] at h; cases h
      | some c =>
        rw [hf] at h
        have h' : [c] = b := by simpa using h
        subst h'
        obtain ⟨e1, e2⟩ := signsOf_for hT hf
        unfold units
        rw [e1, letterUnits_snoc, light_back hx]
    · cases h
  | n + 1, x :: d :: r, had, b, hn, hl, h => by
    have hr : r.length ≤ n := by simp at hn; omega
    have hl' : ∀ x ∈ r, x = 1 ∨ x = 3 ∨ x = 7 := fun y hy => hl y (List.mem_cons_of_mem _ (List.mem_cons_of_mem _ hy))
    have hd := hl d (List.mem_cons_of_mem _ (List.mem_cons_self ..))
    unfold bytesOf at h
    split at h
    · cases h
    · rename_i hx
      have hx' : x = 1 ∨ x = 3 := by omega
      split at h
      · rename_i hd1
        have ih := units_bytesOf hT n r _ b hr hl' h
        rw [ih, pre_snoc, light_back hx', hd1]
        simp
      · rename_i hd1
        cases hf : letterFor T (had ++ [x == 3]) with
        | none => rw [hf] at h; cases h
        | some c =>
          rw [hf] at h
          simp only [Option.bind_some] at h
          cases hb : bytesOf T [] r with
          | none => rw [hb] at h; cases h
          | some b' =>
            rw [hb] at h
            obtain ⟨e1, e2⟩ := signsOf_for hT hf
            have ih := units_bytesOf hT n r [] b' hr hl' hb
            obtain ⟨_, _, ⟨c', r', e', hne'⟩, _, _⟩ := bytesOf_text hT r.length r [] b' (Nat.le_refl _) hb
            simp only [Option.map_some, Option.some.injEq] at h
            split at h
            · rename_i hd3
              subst h
              subst e'
              rw [units_letter T c c' r' hne', e1, letterUnits_snoc, light_back hx', ih, hd3]
              simp [pre]
            · rename_i hd3
              have hd7 : d = 7 := by omega
              subst h
              subst e'
              rw [units_blank, e1, letterUnits_snoc, light_back hx', ih, hd7]
              simp [pre]
/-! ### readings -/
theorem class_vals {k d x j : Nat} (h : classOf k d x = some j) : j = 1 ∨ j = 3 ∨ j = 7 := by
  unfold classOf at h
  have := List.mem_of_find?_eq_some h
  simpa using this
theorem mapM_mem {α β : Type} {f : α → Option β} : ∀ {l : List α} {r : List β}, l.mapM f = some r → ∀ y ∈ r, ∃ x ∈ l, f x = some y
  | [], r, h, y, hy => by
    simp at h; subst h; simp at hy
  | a :: l, r, h, y, hy => by
    rw [List.mapM_cons] at h
    cases ha : f a with
    | none => rw [ha] at h; simp at h
    | some b =>
      rw [ha] at h
      cases hl : l.mapM f with
      | none => rw [hl] at h; simp at h
      | some r' =>
        rw [hl] at h
        simp at h
        subst h
        rcases List.mem_cons.mp hy with e | hy
        · subst e; exact ⟨a, List.mem_cons_self .., ha⟩
        · obtain ⟨x, hx, e⟩ := mapM_mem hl y hy
          exact ⟨x, List.mem_cons_of_mem _ hx, e⟩
theorem mapM_len {α β : Type} {f : α → Option β} : ∀ {l : List α} {r : List β}, l.mapM f = some r → r.length = l.length
  | [], r, h => by simp at h; subst h; rfl
  | a :: l, r, h => by
    rw [List.mapM_cons] at h
    cases ha : f a with
    | none => rw [ha] at h; simp at h
    | some b =>
      rw [ha] at h
      cases hl : l.mapM f with
      | none => rw [hl] at h; simp at h
      | some r' =>
        rw [hl] at h
        simp at h
        subst h
        rw [List.length_cons, List.length_cons, mapM_len hl]
/-- what is read with the first light k units long: the classes l; one unit for all; the bytes; not too many -/
theorem readAs_some {T : Table} (hT : Good T) {d : List Nat} {k : Nat} {b : List UInt8} : readAs T d k = some b ↔ ∃ l, d.mapM (classOf k (d.headD 0)) = some l ∧ leastUnit (l.zip d) ≤ greatestUnit (l.zip d) ∧ bytesOf T [] l = some b ∧ b.length ≤ 1024 := by
  unfold readAs
  cases hl : d.mapM (classOf k (d.headD 0)) with
  | none => simp
  | some l =>
    simp only [Option.bind_some, Option.some.injEq, exists_eq_left']
    by_cases hu : leastUnit (l.zip d) ≤ greatestUnit (l.zip d)
    · rw [if_pos hu]
      cases hb : bytesOf T [] l with
      | none => simp
      | some b' =>
        simp only [Option.bind_some, Option.some.injEq]
        rw [isText_read hT hb]
        by_cases hz : b'.length ≤ 1024
        · rw [if_pos (decide_eq_true hz)]
          constructor
          · intro e
            have e := Option.some.inj e
            subst e
            exact ⟨hu, rfl, hz⟩
          · rintro ⟨_, e, _⟩
            rw [e]
        · rw [if_neg (by simpa using hz)]
          constructor
          · intro e; cases e
          · rintro ⟨_, e, h⟩
            rw [← e] at h
            exact absurd h hz
    · rw [if_neg hu]
      simp [hu]
theorem units_read {T : Table} (hT : Good T) {d : List Nat} {k : Nat} {l : List Nat} {b : List UInt8} (h : d.mapM (classOf k (d.headD 0)) = some l) (hb : bytesOf T [] l = some b) : units T b = l := by
  have hv : ∀ x ∈ l, x = 1 ∨ x = 3 ∨ x = 7 := fun x hx => by
    obtain ⟨y, _, e⟩ := mapM_mem h x hx
    exact class_vals e
  have := units_bytesOf hT l.length l [] b (Nat.le_refl _) hv hb
  simpa [pre] using this
theorem class_spec {k d x j : Nat} (hk : 0 < k) (hd : 0 < d) : classOf k d x = some j ↔ (j = 1 ∨ j = 3 ∨ j = 7) ∧ 4 * j * d ≤ 6 * k * x ∧ 4 * k * x ≤ 6 * j * d := by
  unfold classOf
  have key : ∀ i, ((decide (4 * i * d ≤ 6 * k * x) && decide (4 * k * x ≤ 6 * i * d)) = true) ↔ (4 * i * d ≤ 6 * k * x ∧ 4 * k * x ≤ 6 * i * d) := fun i => by simp
  -- of one time only one class
  have one : ∀ i i' : Nat, (i = 1 ∨ i = 3 ∨ i = 7) → (i' = 1 ∨ i' = 3 ∨ i' = 7) → (4 * i * d ≤ 6 * k * x ∧ 4 * k * x ≤ 6 * i * d) → (4 * i' * d ≤ 6 * k * x ∧ 4 * k * x ≤ 6 * i' * d) → i = i' := by
    intro i i' hi hi' h h'
    have e1 : 6 * k * x = 6 * (k * x) := by rw [Nat.mul_assoc]
    have e2 : 4 * k * x = 4 * (k * x) := by rw [Nat.mul_assoc]
    rw [e1, e2] at h h'
    rcases hi with rfl | rfl | rfl <;> rcases hi' with rfl | rfl | rfl <;> omega
  constructor
  · intro h
    refine ⟨class_vals h, ?_⟩
    have := List.find?_some h
    exact (key j).mp this
  · rintro ⟨hj, h⟩
    cases hf : [1, 3, 7].find? fun (j : Nat) => decide (4 * j * d ≤ 6 * k * x) && decide (4 * k * x ≤ 6 * j * d) with
    | none =>
      rw [List.find?_eq_none] at hf
      exact absurd ((key j).mpr h) (hf j (by simpa using hj))
    | some i =>
      have h1 : i = 1 ∨ i = 3 ∨ i = 7 := by simpa using List.mem_of_find?_eq_some hf
      have h2' := List.find?_some hf
      have h2 := (key i).mp h2'
      rw [one i j h1 hj h2 h]
end Lm

set_option Elab.async false
set_option linter.all false
/-! Each call of the specification by its values. -/
namespace Lm
open FlagsLamp
def dnB (t : List Int) : List UInt8 := t.map fun n => UInt8.ofNat n.toNat
def dnN (d : List Int) : List Nat := d.map Int.toNat
def upN (d : List Nat) : List Int := d.map fun (n : Nat) => (n : Int)
theorem up_dnB {t : List Int} (h : ∀ x ∈ t, 0 ≤ x ∧ x ≤ 255) : up (dnB t) = t := up_ofInts h
theorem dnB_len (t : List Int) : (dnB t).length = t.length := List.length_map ..
theorem upN_dnN {d : List Int} (h : ∀ x ∈ d, 0 ≤ x) : upN (dnN d) = d := by
  unfold upN dnN
  rw [List.map_map]
  conv => rhs; rw [← List.map_id d]
  refine List.map_congr_left fun x hx => ?_
  have := h x hx
  show ((x.toNat : Nat) : Int) = x
  omega
theorem nat_ok {n : Int} (h : 0 ≤ n) : LampNeutral.nat? n = some n.toNat := by
  unfold LampNeutral.nat?
  rw [if_pos h]
theorem nats_ok : ∀ {d : List Int}, (∀ x ∈ d, 0 ≤ x) → LampNeutral.nats? d = some (dnN d)
  | [], _ => rfl
  | x :: d, h => by
    have ih := nats_ok (d := d) fun y hy => h y (List.mem_cons_of_mem _ hy)
    unfold LampNeutral.nats? at ih ⊢
    rw [List.mapM_cons, nat_ok (h x (List.mem_cons_self ..)), ih]
    rfl
theorem ask_pattern {c : Int} {t : List Int} (hc : 0 ≤ c) (ht : ∀ x ∈ t, 0 ≤ x ∧ x ≤ 255) : PyWqbacy.pattern c t = flat (FlagsG7.answer (.pattern (dnB t) c.toNat)) := by
  refine f_flat ?_
  show ((LampNeutral.text? t).bind fun x => (LampNeutral.nat? c).bind fun y => some (FlagsG7.Call.pattern x y)) = _
  rw [bytes_ok ht, nat_ok hc]
  rfl
theorem ask_send {u : Int} {t s : List Int} (hu : 0 ≤ u) (ht : ∀ x ∈ t, 0 ≤ x ∧ x ≤ 255) (hs : ∀ x ∈ s, 0 ≤ x ∧ x ≤ 255) : PyWqbacy.send u t s = flat (FlagsG7.answer (.send (dnB t) (dnB s) u.toNat)) := by
  refine f_flat ?_
  show ((LampNeutral.text? t).bind fun x => (LampNeutral.text? s).bind fun z => (LampNeutral.nat? u).bind fun y => some (FlagsG7.Call.send x z y)) = _
  rw [bytes_ok ht, bytes_ok hs, nat_ok hu]
  rfl
theorem ask_many {t d : List Int} (ht : ∀ x ∈ t, 0 ≤ x ∧ x ≤ 255) (hd : ∀ x ∈ d, 0 ≤ x) : PyWqbacy.many t d = flat (FlagsG7.answer (.many (dnB t) (dnN d))) := by
  refine f_flat ?_
  show ((LampNeutral.text? t).bind fun x => (LampNeutral.nats? d).bind fun y => some (FlagsG7.Call.many x y)) = _
  rw [bytes_ok ht, nats_ok hd]
  rfl
theorem ask_nth {i : Int} {t d : List Int} (hi : 0 ≤ i) (ht : ∀ x ∈ t, 0 ≤ x ∧ x ≤ 255) (hd : ∀ x ∈ d, 0 ≤ x) : PyWqbacy.nth i t d = flat (FlagsG7.answer (.nth (dnB t) (dnN d) i.toNat)) := by
  refine f_flat ?_
  show ((LampNeutral.text? t).bind fun x => (LampNeutral.nats? d).bind fun y => (LampNeutral.nat? i).bind fun z => some (FlagsG7.Call.nth x y z)) = _
  rw [bytes_ok ht, nats_ok hd, nat_ok hi]
  rfl
theorem ask_units {p q : Int} {d : List Int} (hp : 0 ≤ p) (hq : 0 ≤ q) (hd : ∀ x ∈ d, 0 ≤ x) : PyWqbacy.units p q d = flat (FlagsG7.answer (.units (dnN d) p.toNat q.toNat)) := by
  refine f_flat ?_
  show ((LampNeutral.nats? d).bind fun y => (LampNeutral.nat? p).bind fun z => (LampNeutral.nat? q).bind fun z' => some (FlagsG7.Call.units y z z')) = _
  rw [nats_ok hd, nat_ok hp, nat_ok hq]
  rfl
end Lm

set_option Elab.async false
set_option linter.all false
/-! What a table's text is; a letter's pattern; a message and what is sent of it. -/
namespace Lm
open FlagsLamp
theorem judge_cases {t : List Int} (h : ∀ x ∈ t, 0 ≤ x ∧ x ≤ 255) :
    (65536 < t.length ∧ judgeM t = [-2]) ∨
    (¬ 65536 < t.length ∧ ∃ e, FlagsLamp.judge (dnB t) = .error e ∧ judgeM t = [-6, (e.1 : Int), (e.2 : Int)]) ∨
    (¬ 65536 < t.length ∧ ∃ T, FlagsLamp.judge (dnB t) = .ok T ∧ Good T ∧ judgeM t = [(T.length : Int)] ∧ splitM t = T.map lineOf) := by
  by_cases h1 : 65536 < t.length
  · left
    refine ⟨h1, ?_⟩
    unfold judgeM
    rw [if_pos h1]
  · right
    have key := judged (dnB t)
    rw [up_dnB h] at key
    cases hj : FlagsLamp.judge (dnB t) with
    | error e =>
      left
      obtain ⟨k, i⟩ := e
      rw [hj] at key
      have q : tabFault (splitM t) = [(k : Int), (i : Int)] := key
      refine ⟨h1, (k, i), rfl, ?_⟩
      unfold judgeM
      rw [if_neg h1, q]
      rfl
    | ok T =>
      right
      rw [hj] at key
      obtain ⟨q1, q2⟩ := key
      obtain ⟨g1, g2, g3⟩ := judge_ok hj
      rw [up_dnB h] at g3
      refine ⟨h1, T, rfl, g1, ?_, g3⟩
      unfold judgeM
      rw [if_neg h1, q1, q2]
      rfl
theorem tab_much {t : List Int} (h : 65536 < t.length) (f : Table → FlagsG7.Reply) : FlagsG7.ofTable (dnB t) f = FlagsG7.MUCH := by
  unfold FlagsG7.ofTable FlagsG7.LOOKED
  rw [if_pos (by rw [dnB_len]; exact h)]
theorem tab_wrong {t : List Int} (h : ¬ 65536 < t.length) {e : Fault} (hj : FlagsLamp.judge (dnB t) = .error e) (f : Table → FlagsG7.Reply) : FlagsG7.ofTable (dnB t) f = FlagsG7.WRONG := by
  unfold FlagsG7.ofTable FlagsG7.LOOKED
  rw [if_neg (by rw [dnB_len]; exact h), hj]
theorem tab_fine {t : List Int} (h : ¬ 65536 < t.length) {T : Table} (hj : FlagsLamp.judge (dnB t) = .ok T) (f : Table → FlagsG7.Reply) : FlagsG7.ofTable (dnB t) f = f T := by
  unfold FlagsG7.ofTable FlagsG7.LOOKED
  rw [if_neg (by rw [dnB_len]; exact h), hj]
/-! ### a table's dict -/
def lightOf (b : Bool) : Int := if b = true then 3 else 1
def tabOf (T : Table) : List (Int × List Int) := T.map fun x => ((x.byte.toNat : Int), x.signs.map lightOf)
def findI (T : Table) (c : Int) : Option Letter := T.find? fun x => decide ((x.byte.toNat : Int) = c)
theorem findI_byte (T : Table) (b : UInt8) : findI T (b.toNat : Int) = FlagsLamp.find T b := by
  unfold findI FlagsLamp.find
  congr 1
  funext x
  rw [Bool.eq_iff_iff, decide_eq_true_eq, beq_iff_eq]
  constructor
  · intro e
    exact UInt8.toNat_inj.mp (by omega)
  · intro e
    rw [e]
theorem findI_nat (T : Table) {c : Int} (h : 0 ≤ c) : findI T c = if c.toNat < 256 then FlagsLamp.find T (UInt8.ofNat c.toNat) else none := by
  by_cases h1 : c.toNat < 256
  · rw [if_pos h1, ← findI_byte, UInt8.toNat_ofNat']
    congr 1
    omega
  · rw [if_neg h1]
    unfold findI
    rw [List.find?_eq_none]
    intro x _
    have := x.byte.toNat_lt
    simp only [decide_eq_true_eq]
    omega
theorem findI_some {T : Table} {c : Int} {x : Letter} (h : findI T c = some x) : x ∈ T ∧ (x.byte.toNat : Int) = c := by
  unfold findI at h
  exact ⟨List.mem_of_find?_eq_some h, by simpa using List.find?_some h⟩
/-! ### bits -/
theorem bits_nil : FlagsG7.bits [] = 0 := rfl
theorem bits_snoc (a : List Bool) (s : Bool) : FlagsG7.bits (a ++ [s]) = FlagsG7.bits a + (if s = true then 2 ^ a.length else 0) := by
  unfold FlagsG7.bits
  rw [List.zipIdx_append, List.map_append, List.sum_append]
  simp
theorem lightOf_three (b : Bool) : lightOf b = 3 ↔ b = true := by
  cases b <;> simp [lightOf]
theorem lightOf_vals (b : Bool) : lightOf b = 1 ∨ lightOf b = 3 := by
  cases b <;> simp [lightOf]
theorem lightOf_inj {a b : Bool} (h : lightOf a = lightOf b) : a = b := by
  cases a <;> cases b <;> simp [lightOf] at h ⊢
theorem map_light_inj : ∀ {a b : List Bool}, a.map lightOf = b.map lightOf → a = b
  | [], [], _ => rfl
  | [], _ :: _, h => by simp at h
  | _ :: _, [], h => by simp at h
  | x :: r, y :: t, h => by
    rw [List.map_cons, List.map_cons] at h
    rw [lightOf_inj (List.cons.inj h).1, map_light_inj (List.cons.inj h).2]
theorem sgn_light (b : Bool) : (if sgn b = 45 then (3 : Int) else 1) = lightOf b := by
  cases b <;> rfl
def patternM (c : Int) (t : List Int) : List Int := flat (FlagsG7.answer (.pattern (dnB t) c.toNat))
theorem pattern_fine {c : Int} {t : List Int} {T : Table} (hc : 0 ≤ c) (h : ¬ 65536 < t.length) (hj : FlagsLamp.judge (dnB t) = .ok T) :
    patternM c t = match findI T c with
      | none => [-4]
      | some x => [0, (x.signs.length : Int), (FlagsG7.bits x.signs : Int)] := by
  unfold patternM
  rw [findI_nat T hc]
  show flat (FlagsG7.ofTable (dnB t) _) = _
  rw [tab_fine h hj]
  cases (if c.toNat < 256 then FlagsLamp.find T (UInt8.ofNat c.toNat) else none) with
  | none => rfl
  | some x => rfl
theorem pattern_much {c : Int} {t : List Int} (h : 65536 < t.length) : patternM c t = [-2] := by
  unfold patternM
  show flat (FlagsG7.ofTable (dnB t) _) = _
  rw [tab_much h]; rfl
theorem pattern_wrong {c : Int} {t : List Int} (h : ¬ 65536 < t.length) {e : Fault} (hj : FlagsLamp.judge (dnB t) = .error e) : patternM c t = [-6] := by
  unfold patternM
  show flat (FlagsG7.ofTable (dnB t) _) = _
  rw [tab_wrong h hj]; rfl
/-! ### a message -/
def msgM (T : Table) : Int → List Int → Bool
  | before, [] => decide (before ≠ 32)
  | before, b :: r => if b = 32 ∧ before = 32 then false else if b ≠ 32 ∧ findI T b = none then false else msgM T b r
theorem msg_eq (T : Table) : ∀ (bs : List UInt8) (p : UInt8), msgM T (p.toNat : Int) (up bs) = ((bs.all fun c => c == 32 || (FlagsLamp.find T c).isSome) && (noTwoBlanks (p :: bs) && ((p :: bs).getLast? != some 32)))
  | [], p => by
    show decide ((p.toNat : Int) ≠ 32) = _
    simp only [List.all_nil, noTwoBlanks, List.getLast?_singleton, Bool.true_and]
    rw [Bool.eq_iff_iff, decide_eq_true_eq, bne_iff_ne]
    constructor
    · intro h e
      cases e
      exact h rfl
    · intro h e
      exact h (by rw [(u8_lit p 32 (by decide)).mp e]; rfl)
  | b :: r, p => by
    have ih := msg_eq T r b
    have hb : ((b.toNat : Int) = 32) ↔ b = 32 := u8_lit b 32 (by decide)
    have hp : ((p.toNat : Int) = 32) ↔ p = 32 := u8_lit p 32 (by decide)
    rw [up_cons]
    unfold msgM
    rw [ih, findI_byte, List.getLast?_cons_cons, List.all_cons]
    simp only [hb, hp, ne_eq]
    have e2 : noTwoBlanks (p :: b :: r) = (!(p == 32 && b == 32) && noTwoBlanks (b :: r)) := by rw [noTwoBlanks]
    rw [e2]
    by_cases h1 : b = 32
    · subst h1
      by_cases h2 : p = 32
      · subst h2; simp
      · have h2' : (p == 32) = false := beq_eq_false_iff_ne.mpr h2
        simp [h2, h2']
    · have h1' : (b == 32) = false := beq_eq_false_iff_ne.mpr h1
      cases hf : FlagsLamp.find T b with
      | none => simp [h1, h1']
      | some x => simp [h1, h1']
theorem isText_msg (T : Table) (bs : List UInt8) : isText T bs = (decide (bs.length ≤ 1024) && msgM T 32 (up bs)) := by
  have h := msg_eq T bs 32
  have e : (((32 : UInt8).toNat : Nat) : Int) = 32 := rfl
  rw [e] at h
  rw [h]
  unfold isText LONGEST
  cases bs with
  | nil => simp [noTwoBlanks]
  | cons b r =>
    have e2 : noTwoBlanks (32 :: b :: r) = (!((32 : UInt8) == 32 && b == 32) && noTwoBlanks (b :: r)) := by rw [noTwoBlanks]
    rw [e2, List.getLast?_cons_cons, List.head?_cons]
    have e3 : (some b != some (32 : UInt8)) = !(b == 32) := by
      cases hb : b == 32 with
      | true => rw [beq_iff_eq] at hb; subst hb; rfl
      | false =>
        rw [beq_eq_false_iff_ne] at hb
        simpa using hb
    rw [e3]
    have e4 : decide (1 ≤ (b :: r).length) = true := by simp
    rw [e4]
    generalize ((b :: r).all fun c => c == 32 || (FlagsLamp.find T c).isSome) = A
    generalize noTwoBlanks (b :: r) = B
    generalize ((b :: r).getLast? != some 32) = C
    generalize decide ((b :: r).length ≤ 1024) = D
    cases (b == 32) <;> cases A <;> cases B <;> cases C <;> cases D <;> rfl
/-! ### what is sent -/
def weave : Int → List Bool → List Int
  | _, [] => []
  | d, b :: r => d :: lightOf b :: weave 1 r
def cnt (T : Table) : Int → List UInt8 → List Int
  | _, [] => []
  | d, c :: r => if c = 32 then cnt T 7 r else weave d (signsOf T c) ++ cnt T 3 r
theorem upN_cons (n : Nat) (l : List Nat) : upN (n :: l) = (n : Int) :: upN l := rfl
theorem upN_append (a b : List Nat) : upN (a ++ b) = upN a ++ upN b := by
  unfold upN; rw [List.map_append]
theorem upN_len (d : List Nat) : (upN d).length = d.length := List.length_map ..
theorem weave_units : ∀ (d : Int) (l : List Bool), l ≠ [] → weave d l = d :: upN (letterUnits l)
  | _, [], h => absurd rfl h
  | d, [b], _ => by
    cases b <;> rfl
  | d, b :: c :: r, _ => by
    have ih := weave_units 1 (c :: r) (by simp)
    have e : weave d (b :: c :: r) = d :: lightOf b :: weave 1 (c :: r) := rfl
    have e2 : letterUnits (b :: c :: r) = (if b = true then 3 else 1) :: 1 :: letterUnits (c :: r) := by rw [letterUnits]; simp
    rw [e, ih, e2]
    cases b <;> rfl
/-- a text that may stand behind a letter -/
def okMsg (T : Table) : UInt8 → List UInt8 → Prop
  | p, [] => p ≠ 32
  | p, b :: r => (b = 32 → p ≠ 32) ∧ (b ≠ 32 → ∃ x ∈ T, x.byte = b) ∧ okMsg T b r
theorem okMsg_of (T : Table) : ∀ (bs : List UInt8) (p : UInt8), msgM T (p.toNat : Int) (up bs) = true → okMsg T p bs
  | [], p, h => by
    have h' : decide ((p.toNat : Int) ≠ 32) = true := h
    intro e
    subst e
    exact absurd h' (by decide)
  | b :: r, p, h => by
    have hb : ((b.toNat : Int) = 32) ↔ b = 32 := u8_lit b 32 (by decide)
    have hp : ((p.toNat : Int) = 32) ↔ p = 32 := u8_lit p 32 (by decide)
    rw [up_cons] at h
    unfold msgM at h
    rw [findI_byte] at h
    simp only [hb, hp, ne_eq] at h
    split at h
    · cases h
    · rename_i h1
      split at h
      · cases h
      · rename_i h2
        refine ⟨fun e e' => h1 ⟨e, e'⟩, fun e => ?_, okMsg_of T r b h⟩
        cases hf : FlagsLamp.find T b with
        | none => exact absurd ⟨e, hf⟩ h2
        | some x =>
          obtain ⟨h3, h4⟩ := find_some hf
          exact ⟨x, h3, h4⟩
theorem signs_ne {T : Table} (hT : Good T) {x : Letter} (hx : x ∈ T) : signsOf T x.byte = x.signs ∧ x.signs ≠ [] := by
  unfold signsOf
  rw [hT.find hx]
  refine ⟨rfl, fun e => ?_⟩
  have := (hT.byte hx).2.2.1
  rw [e] at this
  exact absurd this (by decide)
theorem cnt_units {T : Table} (hT : Good T) : ∀ (n : Nat) (d : Int) (c : UInt8) (r : List UInt8), r.length ≤ n → c ≠ 32 → (∃ x ∈ T, x.byte = c) → okMsg T c r → cnt T d (c :: r) = d :: upN (units T (c :: r))
  | n, d, c, [], _, hc, ⟨x, hx, hb⟩, _ => by
    obtain ⟨e1, e2⟩ := signs_ne hT hx
    rw [hb] at e1
    unfold cnt
    rw [if_neg hc, e1, weave_units d _ e2]
    unfold cnt units
    rw [e1, List.append_nil]
  | 0, _, _, _ :: _, hn, _, _, _ => by simp at hn
  | n + 1, d, c, b :: r, hn, hc, ⟨x, hx, hb⟩, ho => by
    obtain ⟨e1, e2⟩ := signs_ne hT hx
    rw [hb] at e1
    obtain ⟨o1, o2, o3⟩ := ho
    have hr : r.length ≤ n := by simp at hn; omega
    have e0 : cnt T d (c :: b :: r) = weave d (signsOf T c) ++ cnt T 3 (b :: r) := by
      rw [cnt, if_neg hc]
    rw [e0, e1, weave_units d _ e2]
    by_cases hb32 : b = 32
    · subst hb32
      cases r with
      | nil => exact absurd rfl o3
      | cons b' r' =>
        obtain ⟨p1, p2, p3⟩ := o3
        have hb' : b' ≠ 32 := fun e => p1 e rfl
        have ih := cnt_units hT n 7 b' r' (by simp at hr; omega) hb' (p2 hb') p3
        have e3 : cnt T 3 (32 :: b' :: r') = cnt T 7 (b' :: r') := by
          rw [cnt, if_pos rfl]
        rw [e3, ih, units_blank, e1, upN_append]
        rfl
    · have ih := cnt_units hT n 3 b r hr hb32 (o2 hb32) o3
      rw [ih, units_letter T c b r hb32, e1, upN_append]
      rfl
theorem cnt_text {T : Table} (hT : Good T) {bs : List UInt8} (h : isText T bs = true) : cnt T 1 bs = 1 :: upN (units T bs) := by
  rw [isText_msg] at h
  have h2 := (Bool.and_eq_true_iff.mp h).2
  have ho := okMsg_of T bs 32 h2
  cases bs with
  | nil => exact absurd rfl ho
  | cons b r =>
    obtain ⟨p1, p2, p3⟩ := ho
    have hb' : b ≠ 32 := fun e => p1 e rfl
    exact cnt_units hT r.length 1 b r (Nat.le_refl _) hb' (p2 hb') p3
theorem weave_len : ∀ (d : Int) (l : List Bool), (weave d l).length = 2 * l.length
  | _, [] => rfl
  | d, b :: r => by
    show (weave 1 r).length + 1 + 1 = _
    rw [weave_len 1 r, List.length_cons]
    omega
theorem cnt_len {T : Table} (hT : Good T) : ∀ (d : Int) (bs : List UInt8), (cnt T d bs).length ≤ 16 * bs.length
  | _, [] => by simp [cnt]
  | d, c :: r => by
    unfold cnt
    rw [List.length_cons]
    split
    · have := cnt_len hT 7 r
      omega
    · have := cnt_len hT 3 r
      rw [List.length_append, weave_len]
      have : (signsOf T c).length ≤ 8 := by
        unfold signsOf
        cases hf : FlagsLamp.find T c with
        | none => simp
        | some x => exact (hT.byte (find_some hf).1).2.2.2
      omega
def sendM (u : Int) (t s : List Int) : List Int := flat (FlagsG7.answer (.send (dnB t) (dnB s) u.toNat))
theorem send_much {u : Int} {t s : List Int} (h : 65536 < t.length) : sendM u t s = [-2] := by
  unfold sendM
  show flat (FlagsG7.ofTable (dnB t) _) = _
  rw [tab_much h]; rfl
theorem send_wrong {u : Int} {t s : List Int} (h : ¬ 65536 < t.length) {e : Fault} (hj : FlagsLamp.judge (dnB t) = .error e) : sendM u t s = [-6] := by
  unfold sendM
  show flat (FlagsG7.ofTable (dnB t) _) = _
  rw [tab_wrong h hj]; rfl
theorem send_bad {u : Int} {t s : List Int} {T : Table} (hu : 0 ≤ u) (h : ¬ 65536 < t.length) (hj : FlagsLamp.judge (dnB t) = .ok T) (hb : u < 1 ∨ 134217728 < u ∨ isText T (dnB s) = false) : sendM u t s = [-1] := by
  unfold sendM
  show flat (FlagsG7.ofTable (dnB t) _) = _
  rw [tab_fine h hj]
  rw [if_pos]
  · rfl
  · rcases hb with hb | hb | hb
    · exact .inr (.inl (by omega))
    · exact .inr (.inr (by show 134217728 < _; omega))
    · exact .inl hb
theorem send_fine {u : Int} {t s : List Int} {T : Table} (h : ¬ 65536 < t.length) (hj : FlagsLamp.judge (dnB t) = .ok T) (h1 : 1 ≤ u) (h2 : u ≤ 134217728) (h3 : isText T (dnB s) = true) :
    sendM u t s = ((upN (units T (dnB s))).length : Int) :: (upN (units T (dnB s))).map fun k => k * u := by
  unfold sendM
  show flat (FlagsG7.ofTable (dnB t) _) = _
  rw [tab_fine h hj]
  rw [if_neg]
  · unfold flat FlagsG7.tells
    dsimp only
    rw [upN_len, List.map_nil, List.append_nil]
    congr 1
    unfold upN
    rw [List.map_map, List.map_map]
    refine List.map_congr_left fun k _ => ?_
    show ((k * u.toNat : Nat) : Int) = (k : Int) * u
    rw [Int.natCast_mul]
    congr 1
    omega
  · rw [h3]
    intro q
    rcases q with q | q | q
    · cases q
    · omega
    · have : 134217728 < u.toNat := q
      omega
end Lm

set_option Elab.async false
set_option linter.all false
/-! Readings: the program's way against the specification's. -/
namespace Lm
open FlagsLamp
/-! ### times -/
def badTimes (ns : List Int) : Bool := decide (ns.length % 2 = 0) || (decide (16385 < ns.length) || decide (0 ∈ ns))
theorem times_eq {ns : List Int} (h : ∀ x ∈ ns, 0 ≤ x ∧ x ≤ 4294967295) : areTimes (dnN ns) = !badTimes ns := by
  unfold areTimes badTimes TIMES TOP
  have hl : (dnN ns).length = ns.length := List.length_map ..
  rw [hl]
  have e1 : ((dnN ns).all fun d => decide (1 ≤ d) && decide (d ≤ 4294967295)) = !decide (0 ∈ ns) := by
    rw [Bool.eq_iff_iff, List.all_eq_true, Bool.not_eq_true', decide_eq_false_iff_not]
    constructor
    · intro q hm
      have := q (0 : Int).toNat (List.mem_map.mpr ⟨0, hm, rfl⟩)
      simp at this
    · intro q d hd
      obtain ⟨x, hx, rfl⟩ := List.mem_map.mp hd
      have := h x hx
      have hne : x ≠ 0 := fun e => q (e ▸ hx)
      have a1 : 1 ≤ x.toNat := by omega
      have a2 : x.toNat ≤ 4294967295 := by omega
      simp [a1, a2]
  rw [e1]
  by_cases h1 : ns.length % 2 = 0
  · have : ¬ ns.length % 2 = 1 := by omega
    simp [h1]
  · have : ns.length % 2 = 1 := by omega
    by_cases h2 : 16385 < ns.length
    · have : ¬ ns.length ≤ 16385 := by omega
      simp [this, h2]
    · have h3 : ns.length ≤ 16385 := by omega
      by_cases h4 : (0 : Int) ∈ ns
      · simp [h4]
      · simp [h4, this, h3, h2]
/-! ### which count fits -/
def shareM (one oc other rc : Int) : Bool := decide (2 * (one * rc) ≤ 3 * (other * oc)) && decide (2 * (other * oc) ≤ 3 * (one * rc))
def fitM (first fc time : Int) (choices : List Int) : Int := (choices.find? fun c => shareM first fc time c).getD 0
theorem share_class (k d x j : Nat) : shareM (d : Int) (k : Int) (x : Int) (j : Int) = (decide (4 * j * d ≤ 6 * k * x) && decide (4 * k * x ≤ 6 * j * d)) := by
  unfold shareM
  have e1 : 4 * j * d = 4 * (d * j) := by rw [Nat.mul_assoc, Nat.mul_comm j d]
  have e2 : 6 * k * x = 6 * (x * k) := by rw [Nat.mul_assoc, Nat.mul_comm k x]
  have e3 : 4 * k * x = 4 * (x * k) := by rw [Nat.mul_assoc, Nat.mul_comm k x]
  have e4 : 6 * j * d = 6 * (d * j) := by rw [Nat.mul_assoc, Nat.mul_comm j d]
  rw [e1, e2, e3, e4, ← Int.natCast_mul, ← Int.natCast_mul]
  congr 1
  · rw [Bool.eq_iff_iff, decide_eq_true_eq, decide_eq_true_eq]; omega
  · rw [Bool.eq_iff_iff, decide_eq_true_eq, decide_eq_true_eq]; omega
theorem fit_dark (k d x : Nat) : fitM (d : Int) (k : Int) (x : Int) [1, 3, 7] = ((classOf k d x).getD 0 : Nat) := by
  unfold fitM classOf
  have h1 := share_class k d x 1
  have h3 := share_class k d x 3
  have h7 := share_class k d x 7
  have c1 : ((1 : Nat) : Int) = 1 := rfl
  have c3 : ((3 : Nat) : Int) = 3 := rfl
  have c7 : ((7 : Nat) : Int) = 7 := rfl
  rw [c1] at h1; rw [c3] at h3; rw [c7] at h7
  simp only [List.find?_cons, List.find?_nil, h1, h3, h7]
  generalize (decide (4 * 1 * d ≤ 6 * k * x) && decide (4 * k * x ≤ 6 * 1 * d)) = b1
  generalize (decide (4 * 3 * d ≤ 6 * k * x) && decide (4 * k * x ≤ 6 * 3 * d)) = b3
  generalize (decide (4 * 7 * d ≤ 6 * k * x) && decide (4 * k * x ≤ 6 * 7 * d)) = b7
  cases b1 <;> cases b3 <;> cases b7 <;> rfl
def isLight (n : Nat) : Bool := n == 1 || n == 3
theorem fit_light (k d x : Nat) : fitM (d : Int) (k : Int) (x : Int) [1, 3] = (((classOf k d x).filter isLight).getD 0 : Nat) := by
  unfold fitM classOf
  have h1 := share_class k d x 1
  have h3 := share_class k d x 3
  have c1 : ((1 : Nat) : Int) = 1 := rfl
  have c3 : ((3 : Nat) : Int) = 3 := rfl
  rw [c1] at h1; rw [c3] at h3
  simp only [List.find?_cons, List.find?_nil, h1, h3]
  generalize (decide (4 * 1 * d ≤ 6 * k * x) && decide (4 * k * x ≤ 6 * 1 * d)) = b1
  generalize (decide (4 * 3 * d ≤ 6 * k * x) && decide (4 * k * x ≤ 6 * 3 * d)) = b3
  generalize (decide (4 * 7 * d ≤ 6 * k * x) && decide (4 * k * x ≤ 6 * 7 * d)) = b7
  cases b1 <;> cases b3 <;> cases b7 <;> rfl
/-! ### the counts of all times -/
def chs (lit : Bool) : List Int := if lit = true then [1, 3] else [1, 3, 7]
def cntsR (k d0 : Int) : Bool → List Int → Option (List Int)
  | _, [] => some []
  | lit, x :: r => if fitM d0 k x (chs lit) = 0 then none else (cntsR k d0 (!lit) r).map fun l => fitM d0 k x (chs lit) :: l
def countsM (k : Int) (ns : List Int) : List Int := (cntsR k (ns.headD 0) true ns).getD []
theorem cntsR_len (k d0 : Int) : ∀ (ns : List Int) (lit : Bool) (l : List Int), cntsR k d0 lit ns = some l → l.length = ns.length
  | [], _, l, h => by
    have h' : some [] = some l := h
    cases h'; rfl
  | x :: r, lit, l, h => by
    unfold cntsR at h
    split at h
    · cases h
    · cases hr : cntsR k d0 (!lit) r with
      | none => rw [hr] at h; cases h
      | some l' =>
        rw [hr] at h
        cases h
        rw [List.length_cons, List.length_cons, cntsR_len k d0 r _ l' hr]
theorem countsM_len (k : Int) (ns : List Int) : countsM k ns = [] ∨ (countsM k ns).length = ns.length := by
  unfold countsM
  cases h : cntsR k (ns.headD 0) true ns with
  | none => exact .inl rfl
  | some l => exact .inr (cntsR_len _ _ ns true l h)
/-- lights are 1 or 3 -/
def litOk : Bool → List Nat → Bool
  | _, [] => true
  | lit, x :: r => (!lit || isLight x) && litOk (!lit) r
theorem class_some_ne {k d x j : Nat} (h : classOf k d x = some j) : j ≠ 0 := by
  have := class_vals h
  omega
theorem cnts_eq (k d0 : Nat) : ∀ (d : List Nat) (lit : Bool), cntsR (k : Int) (d0 : Int) lit (upN d) = (d.mapM (classOf k d0)).bind fun l => if litOk lit l = true then some (upN l) else none
  | [], lit => by
    show some [] = _
    simp [litOk, upN]
  | x :: r, lit => by
    have ih := cnts_eq k d0 r (!lit)
    rw [upN_cons]
    unfold cntsR
    rw [ih, List.mapM_cons]
    cases hc : classOf k d0 x with
    | none =>
      have : fitM (d0 : Int) (k : Int) (x : Int) (chs lit) = 0 := by
        cases lit with
        | true => show fitM _ _ _ [1, 3] = 0; rw [fit_light, hc]; rfl
        | false => show fitM _ _ _ [1, 3, 7] = 0; rw [fit_dark, hc]; rfl
      rw [if_pos this]
      rfl
    | some j =>
      have hj := class_some_ne hc
      by_cases hl : (!lit || isLight j) = true
      · have : fitM (d0 : Int) (k : Int) (x : Int) (chs lit) = (j : Int) := by
          cases lit with
          | true =>
            have hl' : isLight j = true := by simpa using hl
            show fitM _ _ _ [1, 3] = _
            rw [fit_light, hc, Option.filter_some, if_pos hl']; rfl
          | false => show fitM _ _ _ [1, 3, 7] = _; rw [fit_dark, hc]; rfl
        rw [this, if_neg (by omega)]
        cases hr : r.mapM (classOf k d0) with
        | none => rfl
        | some l =>
          show ((if litOk (!lit) l = true then some (upN l) else none).map fun l => (j : Int) :: l) = if litOk lit (j :: l) = true then some (upN (j :: l)) else none
          have e : litOk lit (j :: l) = litOk (!lit) l := by
            rw [litOk, hl, Bool.true_and]
          rw [e]
          by_cases h2 : litOk (!lit) l = true
          · rw [if_pos h2, if_pos h2]; rfl
          · rw [if_neg h2, if_neg h2]; rfl
      · have hlit : lit = true := by
          cases lit with
          | true => rfl
          | false => exact absurd rfl hl
        subst hlit
        have hl' : isLight j = false := by simpa using hl
        have : fitM (d0 : Int) (k : Int) (x : Int) (chs true) = 0 := by
          show fitM _ _ _ [1, 3] = _
          rw [fit_light, hc, Option.filter_some, if_neg (by rw [hl']; exact Bool.false_ne_true)]; rfl
        rw [this, if_pos rfl]
        cases hr : r.mapM (classOf k d0) with
        | none => rfl
        | some l =>
          show none = if litOk true (j :: l) = true then some (upN (j :: l)) else none
          have e : litOk true (j :: l) = false := by
            rw [litOk, hl']; rfl
          rw [e]
          rfl
theorem bytesOf_lit {T : Table} : ∀ (n : Nat) (l : List Nat) (had : List Bool) (b : List UInt8), l.length ≤ n → bytesOf T had l = some b → litOk true l = true
  | 0, l, had, b, hn, h => by
    have : l = [] := List.length_eq_zero_iff.mp (Nat.le_zero.mp hn)
    subst this
    rfl
  | n + 1, [], had, b, hn, h => rfl
  | n + 1, [x], had, b, hn, h => by
    unfold bytesOf at h
    split at h
    · rename_i hx
      rcases hx with rfl | rfl <;> rfl
    · cases h
  | n + 1, x :: d :: r, had, b, hn, h => by
    have hr : r.length ≤ n := by simp at hn; omega
    unfold bytesOf at h
    split at h
    · cases h
    · rename_i hx
      have hx' : isLight x = true := by
        have : x = 1 ∨ x = 3 := by omega
        rcases this with rfl | rfl <;> rfl
      have tail : litOk true r = true → litOk true (x :: d :: r) = true := fun q => by
        simp only [litOk, Bool.not_true, Bool.false_or, Bool.not_false, Bool.true_or, Bool.true_and]
        rw [hx', q]; rfl
      split at h
      · exact tail (bytesOf_lit n r _ b hr h)
      · cases hf : letterFor T (had ++ [x == 3]) with
        | none => rw [hf] at h; cases h
        | some c =>
          rw [hf] at h
          simp only [Option.bind_some] at h
          cases hb : bytesOf T [] r with
          | none => rw [hb] at h; cases h
          | some b' => exact tail (bytesOf_lit n r [] b' hr hb)
/-! ### the bounds of the unit -/
def lowM (a b : Int) : List Int := [a / (Int.gcd a b : Nat), b / (Int.gcd a b : Nat)]
theorem low_parts (a b : Nat) (hb : b ≠ 0) : lowM (a : Int) (b : Int) = upN (FlagsG7.parts (mkRat (a : Int) b)) := by
  rw [parts_mk a b hb]
  unfold lowM upN
  rw [Int.gcd_natCast_natCast]
  simp
structure BoundsR (ns cs out : List Int) : Prop where
  ex : ∃ h l : Nat, h < ns.length ∧ l < ns.length ∧ (∀ j, j < ns.length → ns.getD j 0 * cs.getD h 0 ≤ ns.getD h 0 * cs.getD j 0) ∧ (∀ j, j < ns.length → ns.getD l 0 * cs.getD j 0 ≤ ns.getD j 0 * cs.getD l 0) ∧
    out = if shareM (ns.getD h 0) (cs.getD h 0) (ns.getD l 0) (cs.getD l 0) = true then lowM (5 * ns.getD h 0) (6 * cs.getD h 0) ++ lowM (5 * ns.getD l 0) (4 * cs.getD l 0) else []
theorem upN_getD (d : List Nat) (i : Nat) : (upN d).getD i 0 = ((d.getD i 0 : Nat) : Int) := by
  unfold upN
  rw [List.getD_eq_getElem?_getD, List.getD_eq_getElem?_getD, List.getElem?_map]
  cases d[i]? <;> rfl
theorem zip_mem_at {l d : List Nat} (hl : l.length = d.length) {p : Nat × Nat} (hp : p ∈ l.zip d) : ∃ i, i < d.length ∧ p = (l.getD i 0, d.getD i 0) := by
  obtain ⟨i, hi, e⟩ := List.getElem_of_mem hp
  rw [List.length_zip] at hi
  have h1 : i < l.length := by omega
  have h2 : i < d.length := by omega
  refine ⟨i, h2, ?_⟩
  rw [← e, List.getElem_zip, List.getD_eq_getElem?_getD, List.getD_eq_getElem?_getD, List.getElem?_eq_getElem h1, List.getElem?_eq_getElem h2]
  rfl
theorem zip_at_mem {l d : List Nat} (hl : l.length = d.length) {i : Nat} (hi : i < d.length) : (l.getD i 0, d.getD i 0) ∈ l.zip d := by
  have h1 : i < l.length := by omega
  rw [List.getD_eq_getElem?_getD, List.getD_eq_getElem?_getD, List.getElem?_eq_getElem h1, List.getElem?_eq_getElem hi]
  have h3 : i < (l.zip d).length := by rw [List.length_zip]; omega
  have := List.getElem_mem h3
  rw [List.getElem_zip] at this
  exact this
theorem getD_mem {l : List Nat} {i : Nat} (h : i < l.length) : l.getD i 0 ∈ l := by
  rw [List.getD_eq_getElem?_getD, List.getElem?_eq_getElem h]
  exact List.getElem_mem h
theorem bounds_eq {l d : List Nat} (hl : l.length = d.length) (hk : ∀ x ∈ l, 0 < x) {out : List Int} (hB : BoundsR (upN d) (upN l) out) :
    out = if leastUnit (l.zip d) ≤ greatestUnit (l.zip d) then upN (FlagsG7.parts (leastUnit (l.zip d)) ++ FlagsG7.parts (greatestUnit (l.zip d))) else [] := by
  obtain ⟨h, g, hh, hg, eh, eg, eo⟩ := hB.ex
  rw [upN_len] at hh hg eh eg
  have hkz : ∀ p ∈ l.zip d, 0 < p.1 := fun p hp => by
    obtain ⟨i, hi, e⟩ := zip_mem_at hl hp
    rw [e]
    exact hk _ (getD_mem (by omega))
  have kh : 0 < l.getD h 0 := hk _ (getD_mem (by omega))
  have kg : 0 < l.getD g 0 := hk _ (getD_mem (by omega))
  -- in natural numbers
  have eh' : ∀ j, j < d.length → d.getD j 0 * l.getD h 0 ≤ d.getD h 0 * l.getD j 0 := fun j hj => by
    have := eh j hj
    rw [upN_getD, upN_getD, upN_getD, upN_getD, ← Int.natCast_mul, ← Int.natCast_mul] at this
    omega
  have eg' : ∀ j, j < d.length → d.getD g 0 * l.getD j 0 ≤ d.getD j 0 * l.getD g 0 := fun j hj => by
    have := eg j hj
    rw [upN_getD, upN_getD, upN_getD, upN_getD, ← Int.natCast_mul, ← Int.natCast_mul] at this
    omega
  have L : leastUnit (l.zip d) = loOf (l.getD h 0, d.getD h 0) := by
    refine least_is hkz ⟨_, zip_at_mem hl hh, rfl⟩ fun p hp => ?_
    obtain ⟨i, hi, e⟩ := zip_mem_at hl hp
    have ki : 0 < l.getD i 0 := hk _ (getD_mem (by omega))
    rw [e]
    unfold loOf
    rw [mk_le (by show 6 * l.getD i 0 ≠ 0; omega) (by show 6 * l.getD h 0 ≠ 0; omega)]
    have q := eh' i hi
    show ((5 * d.getD i 0 : Nat) : Int) * ((6 * l.getD h 0 : Nat) : Int) ≤ ((5 * d.getD h 0 : Nat) : Int) * ((6 * l.getD i 0 : Nat) : Int)
    rw [← Int.natCast_mul, ← Int.natCast_mul]
    have e1 : 5 * d.getD i 0 * (6 * l.getD h 0) = 30 * (d.getD i 0 * l.getD h 0) := by
      rw [show (30 : Nat) = 5 * 6 from rfl]; ac_rfl
    have e2 : 5 * d.getD h 0 * (6 * l.getD i 0) = 30 * (d.getD h 0 * l.getD i 0) := by
      rw [show (30 : Nat) = 5 * 6 from rfl]; ac_rfl
    rw [e1, e2]
    omega
  have G : greatestUnit (l.zip d) = hiOf (l.getD g 0, d.getD g 0) := by
    refine great_is hkz ⟨_, zip_at_mem hl hg, rfl⟩ fun p hp => ?_
    obtain ⟨i, hi, e⟩ := zip_mem_at hl hp
    have ki : 0 < l.getD i 0 := hk _ (getD_mem (by omega))
    rw [e]
    unfold hiOf
    rw [mk_le (by show 4 * l.getD g 0 ≠ 0; omega) (by show 4 * l.getD i 0 ≠ 0; omega)]
    have q := eg' i hi
    show ((5 * d.getD g 0 : Nat) : Int) * ((4 * l.getD i 0 : Nat) : Int) ≤ ((5 * d.getD i 0 : Nat) : Int) * ((4 * l.getD g 0 : Nat) : Int)
    rw [← Int.natCast_mul, ← Int.natCast_mul]
    have e1 : 5 * d.getD g 0 * (4 * l.getD i 0) = 20 * (d.getD g 0 * l.getD i 0) := by
      rw [show (20 : Nat) = 5 * 4 from rfl]; ac_rfl
    have e2 : 5 * d.getD i 0 * (4 * l.getD g 0) = 20 * (d.getD i 0 * l.getD g 0) := by
      rw [show (20 : Nat) = 5 * 4 from rfl]; ac_rfl
    rw [e1, e2]
    omega
  have C : (leastUnit (l.zip d) ≤ greatestUnit (l.zip d)) ↔ shareM ((upN d).getD h 0) ((upN l).getD h 0) ((upN d).getD g 0) ((upN l).getD g 0) = true := by
    rw [L, G, upN_getD, upN_getD, upN_getD, upN_getD]
    unfold loOf hiOf
    rw [mk_le (by show 6 * l.getD h 0 ≠ 0; omega) (by show 4 * l.getD g 0 ≠ 0; omega)]
    show ((5 * d.getD h 0 : Nat) : Int) * ((4 * l.getD g 0 : Nat) : Int) ≤ ((5 * d.getD g 0 : Nat) : Int) * ((6 * l.getD h 0 : Nat) : Int) ↔ _
    rw [← Int.natCast_mul, ← Int.natCast_mul]
    have e1 : 5 * d.getD h 0 * (4 * l.getD g 0) = 20 * (d.getD h 0 * l.getD g 0) := by
      rw [show (20 : Nat) = 5 * 4 from rfl]; ac_rfl
    have e2 : 5 * d.getD g 0 * (6 * l.getD h 0) = 30 * (d.getD g 0 * l.getD h 0) := by
      rw [show (30 : Nat) = 5 * 6 from rfl]; ac_rfl
    rw [e1, e2]
    unfold shareM
    rw [← Int.natCast_mul, ← Int.natCast_mul, Bool.and_eq_true, decide_eq_true_eq, decide_eq_true_eq]
    have q := eh' g hg
    omega
  rw [eo]
  by_cases hc : leastUnit (l.zip d) ≤ greatestUnit (l.zip d)
  · rw [if_pos (C.mp hc), if_pos hc, upN_append, L, G, upN_getD, upN_getD, upN_getD, upN_getD]
    unfold loOf hiOf
    rw [← low_parts _ _ (by show 6 * l.getD h 0 ≠ 0; omega), ← low_parts _ _ (by show 4 * l.getD g 0 ≠ 0; omega)]
    simp
  · rw [if_neg (fun q => hc (C.mpr q)), if_neg hc]
theorem lowM_len (a b : Int) : (lowM a b).length = 2 := rfl
theorem BoundsR.len {ns cs out : List Int} (h : BoundsR ns cs out) : out = [] ∨ out.length = 4 := by
  obtain ⟨_, _, _, _, _, _, e⟩ := h.ex
  rw [e]
  split
  · right; rfl
  · left; rfl
/-! ### the message -/
def toldM (T : Table) (l : List Nat) : List Int := match bytesOf T [] l with
  | some b => if b.length ≤ 1024 then up b else []
  | none => []
def rowOf (T : Table) (d : List Nat) (b : List UInt8) : List Int := flat ⟨(b.length : Nat), FlagsG7.parts (between T b d).1 ++ FlagsG7.parts (between T b d).2, b⟩
def rowM (T : Table) (d : List Nat) (k : Nat) : List Int := match readAs T d k with
  | some b => rowOf T d b
  | none => []
theorem row_ne (T : Table) (d : List Nat) (b : List UInt8) : rowOf T d b ≠ [] := by
  unfold rowOf flat
  simp
/-- what read_times finds, step by step -/
theorem row_none {T : Table} (hT : Good T) {d : List Nat} (hd : d ≠ []) {k : Nat} (h : countsM (k : Int) (upN d) = []) : rowM T d k = [] := by
  unfold rowM
  cases hr : readAs T d k with
  | none => rfl
  | some b =>
    obtain ⟨l, h1, h2, h3, h4⟩ := (readAs_some hT).mp hr
    exfalso
    have hlit := bytesOf_lit l.length l [] b (Nat.le_refl _) h3
    have hh : (upN d).headD 0 = ((d.headD 0 : Nat) : Int) := by
      cases d <;> rfl
    unfold countsM at h
    rw [hh, cnts_eq, h1] at h
    simp only [Option.bind_some] at h
    rw [if_pos hlit] at h
    have h' : upN l = [] := h
    have : l.length = d.length := mapM_len h1
    have h5 := congrArg List.length h'
    rw [upN_len, this] at h5
    exact hd (List.length_eq_zero_iff.mp h5)
theorem counts_some {d : List Nat} {k : Nat} (h : countsM (k : Int) (upN d) ≠ []) : ∃ l, d.mapM (classOf k (d.headD 0)) = some l ∧ countsM (k : Int) (upN d) = upN l ∧ litOk true l = true ∧ l.length = d.length ∧ ∀ x ∈ l, x = 1 ∨ x = 3 ∨ x = 7 := by
  have hh : (upN d).headD 0 = ((d.headD 0 : Nat) : Int) := by
    cases d <;> rfl
  unfold countsM at h ⊢
  rw [hh, cnts_eq] at h ⊢
  cases h1 : d.mapM (classOf k (d.headD 0)) with
  | none => rw [h1] at h; exact absurd rfl h
  | some l =>
    rw [h1] at h
    simp only [Option.bind_some] at h
    by_cases hl : litOk true l = true
    · refine ⟨l, rfl, ?_, hl, mapM_len h1, fun x hx => ?_⟩
      · simp only [Option.bind_some]
        rw [if_pos hl]; rfl
      · obtain ⟨y, _, e⟩ := mapM_mem h1 x hx
        exact class_vals e
    · rw [if_neg hl] at h
      exact absurd rfl h
theorem told_nil {T : Table} (hT : Good T) {l : List Nat} : toldM T l = [] ↔ ¬ ∃ b, bytesOf T [] l = some b ∧ b.length ≤ 1024 := by
  unfold toldM
  cases hb : bytesOf T [] l with
  | none => simp
  | some b =>
    obtain ⟨h1, _⟩ := bytesOf_text hT l.length l [] b (Nat.le_refl _) hb
    by_cases hz : b.length ≤ 1024
    · simp only [if_pos hz]
      constructor
      · intro e
        have := congrArg List.length e
        rw [up_len] at this
        exact absurd (List.length_eq_zero_iff.mp this) h1
      · intro e
        exact absurd ⟨b, rfl, hz⟩ e
    · simp only [if_neg hz, true_iff]
      rintro ⟨b', e, h⟩
      cases e
      exact hz h
/-- what read_times gives back where there are counts -/
theorem row_some {T : Table} (hT : Good T) {d : List Nat} (hd : d ≠ []) {k : Nat} {l : List Nat} {bounds : List Int} (h1 : d.mapM (classOf k (d.headD 0)) = some l) (hB : BoundsR (upN d) (upN l) bounds) :
    rowM T d k = if bounds = [] ∨ toldM T l = [] then [] else ((toldM T l).length : Int) :: (bounds ++ toldM T l) := by
  have hlen : l.length = d.length := mapM_len h1
  have hk : ∀ x ∈ l, 0 < x := fun x hx => by
    obtain ⟨y, _, e⟩ := mapM_mem h1 x hx
    have := class_vals e
    omega
  have eb := bounds_eq hlen hk hB
  have hn : (upN (FlagsG7.parts (leastUnit (l.zip d)) ++ FlagsG7.parts (greatestUnit (l.zip d)))) ≠ [] := by
    unfold FlagsG7.parts upN
    simp
  by_cases hc : bounds = [] ∨ toldM T l = []
  · rw [if_pos hc]
    unfold rowM
    cases hr : readAs T d k with
    | none => rfl
    | some b =>
      exfalso
      obtain ⟨l', g1, g2, g3, g4⟩ := (readAs_some hT).mp hr
      rw [h1] at g1
      cases g1
      rcases hc with hc | hc
      · rw [eb, if_pos g2] at hc
        exact hn hc
      · exact (told_nil hT).mp hc ⟨b, g3, g4⟩
  · rw [if_neg hc]
    have c1 : bounds ≠ [] := fun e => hc (.inl e)
    have c2 : toldM T l ≠ [] := fun e => hc (.inr e)
    have hu : leastUnit (l.zip d) ≤ greatestUnit (l.zip d) := by
      refine Classical.byContradiction fun q => ?_
      rw [if_neg q] at eb
      exact c1 eb
    have hex : ∃ b, bytesOf T [] l = some b ∧ b.length ≤ 1024 := Classical.byContradiction fun q => c2 ((told_nil hT).mpr q)
    obtain ⟨b, hb, hz⟩ := hex
    have hr : readAs T d k = some b := (readAs_some hT).mpr ⟨l, h1, hu, hb, hz⟩
    have et : toldM T l = up b := by
      unfold toldM
      rw [hb]
      simp only [if_pos hz]
    have eu : units T b = l := units_read hT h1 hb
    unfold rowM
    rw [hr]
    show rowOf T d b = _
    unfold rowOf flat between
    rw [eu, et, up_len, eb, if_pos hu]
    rfl
/-! ### all readings -/
def rowsM (T : Table) (d : List Nat) : List (List Int) := ([1, 3].map (rowM T d)).filter fun r => decide (r ≠ [])
theorem rows_eq (T : Table) (d : List Nat) : rowsM T d = (readings T d).map (rowOf T d) := by
  unfold rowsM readings rowM
  simp only [List.map_cons, List.map_nil, List.filterMap_cons, List.filterMap_nil]
  cases h1 : readAs T d 1 with
  | none =>
    cases h3 : readAs T d 3 with
    | none => rfl
    | some b => simp [row_ne]
  | some a =>
    cases h3 : readAs T d 3 with
    | none => simp [row_ne]
    | some b => simp [row_ne]
/-! ### the two calls -/
def refusalM (t ns : List Int) : Int := if (judgeM t).headD 0 < 0 then (judgeM t).headD 0 else if badTimes ns = true then -1 else 0
def manyM (t ns : List Int) : List Int := flat (FlagsG7.answer (.many (dnB t) (dnN ns)))
def nthM (i : Int) (t ns : List Int) : List Int := flat (FlagsG7.answer (.nth (dnB t) (dnN ns) i.toNat))
theorem refuse_cases {t ns : List Int} (h : ∀ x ∈ t, 0 ≤ x ∧ x ≤ 255) (hn : ∀ x ∈ ns, 0 ≤ x ∧ x ≤ 4294967295) (i : Int) :
    (refusalM t ns < 0 ∧ manyM t ns = [refusalM t ns] ∧ nthM i t ns = [refusalM t ns]) ∨
    (refusalM t ns = 0 ∧ badTimes ns = false ∧ ∃ T, FlagsLamp.judge (dnB t) = .ok T ∧ ¬ 65536 < t.length ∧ Good T ∧ splitM t = T.map lineOf ∧
      manyM t ns = [((rowsM T (dnN ns)).length : Int)] ∧ nthM i t ns = (match (rowsM T (dnN ns))[i.toNat]? with | none => [-4] | some r => r)) := by
  unfold refusalM manyM nthM
  rcases judge_cases h with ⟨h1, e⟩ | ⟨h1, er, hj, e⟩ | ⟨h1, T, hj, g, e, es⟩
  · left
    rw [e]
    have e0 : (([-2] : List Int).headD 0 < 0) := by show (-2 : Int) < 0; decide
    rw [if_pos e0]
    refine ⟨e0, ?_, ?_⟩
    · show flat (FlagsG7.ofTable (dnB t) _) = _
      rw [tab_much h1]; rfl
    · show flat (FlagsG7.ofTable (dnB t) _) = _
      rw [tab_much h1]; rfl
  · left
    rw [e]
    have e0 : (([-6, (er.1 : Int), (er.2 : Int)] : List Int).headD 0 < 0) := by show (-6 : Int) < 0; decide
    rw [if_pos e0]
    refine ⟨e0, ?_, ?_⟩
    · show flat (FlagsG7.ofTable (dnB t) _) = _
      rw [tab_wrong h1 hj]; rfl
    · show flat (FlagsG7.ofTable (dnB t) _) = _
      rw [tab_wrong h1 hj]; rfl
  · rw [e]
    have e0 : ¬ (([(T.length : Int)] : List Int).headD 0 < 0) := by
      show ¬ ((T.length : Int) < 0); omega
    rw [if_neg e0]
    have ht := times_eq hn
    cases hb : badTimes ns with
    | true =>
      left
      rw [hb] at ht
      have ht : areTimes (dnN ns) = false := ht
      refine ⟨by decide, ?_, ?_⟩
      · show flat (FlagsG7.ofTable (dnB t) _) = _
        rw [tab_fine h1 hj, if_pos ht]; rfl
      · show flat (FlagsG7.ofTable (dnB t) _) = _
        rw [tab_fine h1 hj, if_pos ht]; rfl
    | false =>
      right
      rw [hb] at ht
      have ht' : ¬ areTimes (dnN ns) = false := by rw [ht]; decide
      refine ⟨rfl, rfl, T, hj, h1, g, es, ?_, ?_⟩
      · show flat (FlagsG7.ofTable (dnB t) _) = _
        rw [tab_fine h1 hj, if_neg ht', rows_eq, List.length_map]; rfl
      · show flat (FlagsG7.ofTable (dnB t) _) = _
        rw [tab_fine h1 hj, if_neg ht', rows_eq, List.getElem?_map]
        cases (readings T (dnN ns))[i.toNat]? <;> rfl
/-! ### units -/
def unitM (p q x : Int) : Int := if p > 0 ∧ q > 0 ∧ p ≤ 4294967295 ∧ q ≤ 4294967295 then (([1, 3, 7] : List Int).find? fun c => decide (4 * c * p ≤ 5 * x * q) && decide (5 * x * q ≤ 6 * c * p)).getD 0 else 0
theorem unit_eq {p q x : Int} (hp : 0 ≤ p) (hq : 0 ≤ q) (hx : 0 ≤ x) : unitM p q x = ((unitsOf p.toNat q.toNat x.toNat : Nat) : Int) := by
  unfold unitM unitsOf TOP
  obtain ⟨a, rfl⟩ := Int.eq_ofNat_of_zero_le hp
  obtain ⟨b, rfl⟩ := Int.eq_ofNat_of_zero_le hq
  obtain ⟨c, rfl⟩ := Int.eq_ofNat_of_zero_le hx
  simp only [Int.toNat_natCast]
  by_cases h : a = 0 ∨ b = 0 ∨ 4294967295 < a ∨ 4294967295 < b
  · rw [if_pos h, if_neg (by omega)]; rfl
  · rw [if_neg h, if_pos (by omega)]
    have key : ∀ k : Nat, (decide (4 * (k : Int) * (a : Int) ≤ 5 * (c : Int) * (b : Int)) && decide (5 * (c : Int) * (b : Int) ≤ 6 * (k : Int) * (a : Int))) = (decide (4 * k * a ≤ 5 * c * b) && decide (5 * c * b ≤ 6 * k * a)) := fun k => by
      have e1 : 4 * (k : Int) * (a : Int) = ((4 * k * a : Nat) : Int) := by simp
      have e2 : 5 * (c : Int) * (b : Int) = ((5 * c * b : Nat) : Int) := by simp
      have e3 : 6 * (k : Int) * (a : Int) = ((6 * k * a : Nat) : Int) := by simp
      rw [e1, e2, e3]
      congr 1
      · rw [Bool.eq_iff_iff, decide_eq_true_eq, decide_eq_true_eq]; omega
      · rw [Bool.eq_iff_iff, decide_eq_true_eq, decide_eq_true_eq]; omega
    have h1 := key 1
    have h3 := key 3
    have h7 := key 7
    have c1 : ((1 : Nat) : Int) = 1 := rfl
    have c3 : ((3 : Nat) : Int) = 3 := rfl
    have c7 : ((7 : Nat) : Int) = 7 := rfl
    rw [c1] at h1; rw [c3] at h3; rw [c7] at h7
    simp only [List.find?_cons, List.find?_nil, h1, h3, h7]
    generalize (decide (4 * 1 * a ≤ 5 * c * b) && decide (5 * c * b ≤ 6 * 1 * a)) = b1
    generalize (decide (4 * 3 * a ≤ 5 * c * b) && decide (5 * c * b ≤ 6 * 3 * a)) = b3
    generalize (decide (4 * 7 * a ≤ 5 * c * b) && decide (5 * c * b ≤ 6 * 7 * a)) = b7
    cases b1 <;> cases b3 <;> cases b7 <;> rfl
theorem units_eq {p q : Int} {ns : List Int} (hp : 0 ≤ p) (hq : 0 ≤ q) (hn : ∀ x ∈ ns, 0 ≤ x) : PyWqbacy.units p q ns = 0 :: ns.map (unitM p q) := by
  rw [ask_units hp hq hn]
  show (0 : Int) :: (((dnN ns).map (unitsOf p.toNat q.toNat)).map (fun n : Nat => (n : Int)) ++ ([] : List UInt8).map fun (b : UInt8) => (b.toNat : Int)) = _
  rw [List.map_nil, List.append_nil]
  congr 1
  unfold dnN
  rw [List.map_map, List.map_map]
  refine List.map_congr_left fun x hx => ?_
  exact (unit_eq hp hq (hn x hx)).symm
end Lm

set_option Elab.async false
set_option linter.all false
/-! The message told two by two; ratios; Euclid. -/
namespace Lm
open FlagsLamp
def tell (T : Table) : List Bool → List Nat → Option (List UInt8)
  | _, [] => some []
  | _, [_] => none
  | had, x :: d :: r => if d = 1 then tell T (had ++ [x == 3]) r else (letterFor T (had ++ [x == 3])).bind fun c => (tell T [] r).map fun b => if d = 7 then c :: 32 :: b else c :: b
theorem tell_eq (T : Table) : ∀ (n : Nat) (l : List Nat) (had : List Bool), l.length ≤ n → l.length % 2 = 1 → litOk true l = true → (∀ x ∈ l, x = 1 ∨ x = 3 ∨ x = 7) → tell T had (l ++ [3]) = bytesOf T had l
  | 0, l, had, hn, ho, _, _ => by omega
  | n + 1, [], had, hn, ho, _, _ => by simp at ho
  | n + 1, [x], had, hn, ho, hl, _ => by
    have hx : x = 1 ∨ x = 3 := by
      simp only [litOk, isLight, Bool.not_true, Bool.false_or, Bool.and_true, Bool.or_eq_true, beq_iff_eq] at hl
      exact hl
    show tell T had [x, 3] = _
    unfold bytesOf tell
    rw [if_pos hx, if_neg (by decide)]
    unfold tell
    cases letterFor T (had ++ [x == 3]) <;> rfl
  | n + 1, x :: d :: r, had, hn, ho, hl, hv => by
    have hr : r.length ≤ n := by simp at hn; omega
    have hor : r.length % 2 = 1 := by simp at ho; omega
    simp only [litOk, Bool.not_true, Bool.false_or, Bool.not_false, Bool.true_or, Bool.true_and, Bool.and_eq_true] at hl
    obtain ⟨hx, hlr⟩ := hl
    have hx : x = 1 ∨ x = 3 := by
      simp only [isLight, Bool.or_eq_true, beq_iff_eq] at hx
      exact hx
    have hd := hv d (List.mem_cons_of_mem _ (List.mem_cons_self ..))
    have hvr : ∀ x ∈ r, x = 1 ∨ x = 3 ∨ x = 7 := fun y hy => hv y (List.mem_cons_of_mem _ (List.mem_cons_of_mem _ hy))
    have ih := fun h => tell_eq T n r h hr hor hlr hvr
    show tell T had (x :: d :: (r ++ [3])) = _
    unfold bytesOf tell
    rw [if_neg (show ¬ (x ≠ 1 ∧ x ≠ 3) by omega)]
    by_cases h1 : d = 1
    · rw [if_pos h1, if_pos h1, ih]
    · rw [if_neg h1, if_neg h1, ih]
      cases letterFor T (had ++ [x == 3]) with
      | none => rfl
      | some c =>
        simp only [Option.bind_some]
        congr 1
        funext b
        by_cases h3 : d = 3
        · rw [if_pos h3, if_neg (by omega)]
        · rw [if_neg h3, if_pos (by omega)]
theorem litOk_at : ∀ (l : List Nat) (lit : Bool) (i x : Nat), litOk lit l = true → l[i]? = some x → (i % 2 = 0 ↔ lit = true) → isLight x = true
  | [], _, i, x, _, h, _ => by simp at h
  | y :: r, lit, 0, x, hl, h, hp => by
    have hlit : lit = true := hp.mp rfl
    subst hlit
    have : y = x := by simpa using h
    subst this
    rw [litOk, Bool.and_eq_true] at hl
    simpa using hl.1
  | y :: r, lit, i + 1, x, hl, h, hp => by
    rw [litOk, Bool.and_eq_true] at hl
    refine litOk_at r (!lit) i x hl.2 (by simpa using h) ?_
    cases lit with
    | true =>
      have := hp.mpr rfl
      constructor
      · intro q; omega
      · intro q; cases q
    | false =>
      constructor
      · intro _; rfl
      · intro _
        have h2 : ¬ (i + 1) % 2 = 0 := fun q => by
          have := hp.mp q
          cases this
        omega
theorem light_bool {x : Nat} (h : isLight x = true) : lightOf (x == 3) = (x : Int) := by
  have hx : x = 1 ∨ x = 3 := by
    simp only [isLight, Bool.or_eq_true, beq_iff_eq] at h
    exact h
  rcases hx with rfl | rfl <;> rfl
theorem tell_len (T : Table) : ∀ (n : Nat) (l : List Nat) (had : List Bool) (b : List UInt8), l.length ≤ n → tell T had l = some b → b.length ≤ l.length
  | _, [], _, b, _, h => by
    have h' : some [] = some b := h
    cases h'; simp
  | 0, _ :: _, _, _, hn, _ => by simp at hn
  | _, [x], _, b, _, h => by
    have h' : none = some b := h
    cases h'
  | n + 1, x :: d :: r, had, b, hn, h => by
    have hr : r.length ≤ n := by simp at hn; omega
    unfold tell at h
    rw [List.length_cons, List.length_cons]
    split at h
    · have := tell_len T n r _ b hr h
      omega
    · cases hf : letterFor T (had ++ [x == 3]) with
      | none => rw [hf] at h; cases h
      | some c =>
        rw [hf] at h
        simp only [Option.bind_some] at h
        cases hb : tell T [] r with
        | none => rw [hb] at h; cases h
        | some b' =>
          rw [hb] at h
          have := tell_len T n r [] b' hr hb
          simp only [Option.map_some, Option.some.injEq] at h
          split at h
          · subst h; simp; omega
          · subst h; simp; omega
/-! ### ratios -/
theorem ratio_trans {xj xh xp cj ch cp : Int} (hch : 0 < ch) (hcj : 0 ≤ cj) (hcp : 0 ≤ cp) (h1 : xj * ch ≤ xh * cj) (h2 : xh * cp ≤ xp * ch) : xj * cp ≤ xp * cj := by
  have a1 : xj * ch * cp ≤ xh * cj * cp := Int.mul_le_mul_of_nonneg_right h1 hcp
  have a2 : xh * cp * cj ≤ xp * ch * cj := Int.mul_le_mul_of_nonneg_right h2 hcj
  have e1 : xj * ch * cp = xj * cp * ch := by ac_rfl
  have e2 : xh * cj * cp = xh * cp * cj := by ac_rfl
  have e3 : xp * ch * cj = xp * cj * ch := by ac_rfl
  rw [e1, e2] at a1
  rw [e3] at a2
  exact Int.le_of_mul_le_mul_right (Int.le_trans a1 a2) hch
/-! ### Euclid -/
theorem gcd_turn (d r : Nat) : Nat.gcd r (d % r) = Nat.gcd d r := by
  rw [Nat.gcd_comm d r, Nat.gcd_rec r d, Nat.gcd_comm]
end Lm

set_option Elab.async false
set_option linter.all false
set_option maxRecDepth 100000
namespace Lm
open PySem L2
/-- x *= e -/
theorem ip_mul {X : Cx} : PIp X .Mult (fun x y H Q => ∃ i j, x = V.int i ∧ y = V.int j ∧ CMul i j ∧ Q (.int (i * j)) H) := by
  intro pins s σ H x y v u Q I r1 r2 h
  obtain ⟨i, j, e1, e2, hc, q⟩ := h
  subst e1; subst e2
  obtain ⟨t, rfl⟩ := r1
  obtain ⟨t', rfl⟩ := r2
  exact PyProof.Rows.imul_int ⟨.int _, H, I.tok _, ⟨_, rfl⟩, q⟩ hc.ok
/-- a comprehension without tests -/
theorem yesT {σ : St} {H : Hp} {A B : Hp → Prop} (h : A H) : tYes σ H fun b H3 => if b = true then A H3 else B H3 := by
  show if true = true then A H else B H
  rw [if_pos rfl]; exact h
/-! ### tuples of the top -/
theorem tup2_mk {K : PySem.W.Frag} {h : Heap} {mg : Str → Option Value} {x : Str} {f : Addr} {od : Option Addr} {sl : Array (Option Value)} {n : Nat} {i j : Int} {t u : Tok} (X : K.In h) (G : h.Ns mainGlobals mg)
    (a : PySem.W.nsIn K mainGlobals x = some (some (.ref f))) (l : K.lookup f = some ⟨.type "tuple", od, .seq #[.int i t, .int j u] n, sl⟩) : ∃ a, mg x = some (.ref a) ∧ ∀ H, SqT K H a [V.int i, V.int j] :=
  ⟨f, PySem.W.mg_of X G a, fun H => .inr ⟨_, _, _, l, rfl, rfl, (by show 2 ≤ sizeLine; decide), .cons ⟨t, rfl⟩ (.cons ⟨u, rfl⟩ .nil)⟩⟩
theorem tup3_mk {K : PySem.W.Frag} {h : Heap} {mg : Str → Option Value} {x : Str} {f : Addr} {od : Option Addr} {sl : Array (Option Value)} {n : Nat} {i j k : Int} {t u v : Tok} (X : K.In h) (G : h.Ns mainGlobals mg)
    (a : PySem.W.nsIn K mainGlobals x = some (some (.ref f))) (l : K.lookup f = some ⟨.type "tuple", od, .seq #[.int i t, .int j u, .int k v] n, sl⟩) : ∃ a, mg x = some (.ref a) ∧ ∀ H, SqT K H a [V.int i, V.int j, V.int k] :=
  ⟨f, PySem.W.mg_of X G a, fun H => .inr ⟨_, _, _, l, rfl, rfl, (by show 3 ≤ sizeLine; decide), .cons ⟨t, rfl⟩ (.cons ⟨u, rfl⟩ (.cons ⟨v, rfl⟩ .nil))⟩⟩
/-! ### a heap that differs at one place -/
def But (L : Addr) (H H' : Hp) : Prop := ∀ b o, b ≠ L → H b = some o → H' b = some o
theorem But.refl {L : Addr} (H : Hp) : But L H H := fun _ _ _ h => h
theorem But.trans {L : Addr} {H H1 H2 : Hp} (a : But L H H1) (b : But L H1 H2) : But L H H2 := fun c o hc h => b c o hc (a c o hc h)
theorem But.same {L : Addr} {H H1 H2 : Hp} (a : But L H H1) (b : Same H1 H2) : But L H H2 := fun c o hc h => b c o (a c o hc h)
theorem But.at {L : Addr} {H H1 : Hp} {u : HO} (a : But L H H1) : But L H (upd H1 L u) := fun c o hc h => by
  rw [upd_ne hc]; exact a c o hc h
theorem But.of {L : Addr} {H H1 H2 : Hp} (hL : H L = none) {u : HO} (s : Same (upd H L u) H1) (b : But L H1 H2) : Same H H2 := fun c o h => by
  have hc : c ≠ L := ne_of_none h hL
  refine b c o hc (s c o ?_)
  rw [upd_ne hc]; exact h
/-- what is neither list nor frozen list -/
def NoLst : HO → Prop
  | .lst _ => False
  | .frz _ _ => False
  | _ => True
theorem But.seq {K : PySem.W.Frag} {L : Addr} {H H' : Hp} {u : HO} (hL : H L = some u) (hu : NoLst u) (b : But L H H') {a : Addr} {xs : List V} (h : SqL K H a xs) : SqL K H' a xs := by
  rcases h with (h | ⟨o, h⟩) | h
  · refine .inl (.inl (b _ _ (fun e => ?_) h))
    rw [e, hL] at h; cases h; exact hu
  · refine .inl (.inr ⟨o, b _ _ (fun e => ?_) h⟩)
    rw [e, hL] at h; cases h; exact hu
  · exact .inr h
theorem seq_upd {K : PySem.W.Frag} {L : Addr} {H : Hp} {u v : HO} (hL : H L = some u) (hu : NoLst u) {a : Addr} {xs : List V} (h : SqL K H a xs) : SqL K (upd H L v) a xs := But.seq hL hu (But.at (But.refl H)) h
/-! ### a table's dict -/
abbrev TabRow (K : PySem.W.Frag) (H : Hp) (kv : Key × V) (p : Int × List Int) : Prop := kv.1 = Sum.inl p.1 ∧ ∃ b, kv.2 = V.ref b ∧ IL K H b p.2
def TabAt (K : PySem.W.Frag) (H : Hp) (a : Addr) (tab : List (Int × List Int)) : Prop := ∃ kvs, H a = some (.dK kvs) ∧ Paired (TabRow K H) kvs tab
theorem TabAt.same {K : PySem.W.Frag} {H H' : Hp} (s : Same H H') {a : Addr} {tab : List (Int × List Int)} (h : TabAt K H a tab) : TabAt K H' a tab := by
  obtain ⟨kvs, h1, h2⟩ := h
  exact ⟨kvs, s _ _ h1, Paired.mapP h2 fun _ _ ⟨e, b, e2, h3⟩ => ⟨e, b, e2, s.seq h3⟩⟩
theorem tab_val {K : PySem.W.Frag} {H : Hp} {kvs : List (Key × V)} {tab : List (Int × List Int)} (h : Paired (TabRow K H) kvs tab) (c : Int) :
    (tab.find? (fun p => decide (p.1 = c)) = none ∧ valV kvs (Sum.inl c) = none) ∨ ∃ p b, tab.find? (fun p => decide (p.1 = c)) = some p ∧ valV kvs (Sum.inl c) = some (V.ref b) ∧ IL K H b p.2 := by
  induction h with
  | nil => exact .inl ⟨rfl, rfl⟩
  | @cons kv p r1 r2 h1 _ ih =>
    obtain ⟨e1, b, e2, h2⟩ := h1
    by_cases hc : p.1 = c
    · right
      refine ⟨p, b, ?_, ?_, h2⟩
      · rw [List.find?_cons, decide_eq_true hc]
      · rw [valV_pos (by rw [e1, hc]), e2]
    · have hk : ¬ kv.1 = Sum.inl c := fun e => hc (by rw [e1] at e; exact Sum.inl.inj e)
      rw [List.find?_cons, decide_eq_false hc, valV_neg hk]
      exact ih
theorem tabOf_find (T : FlagsLamp.Table) (c : Int) : (tabOf T).find? (fun p => decide (p.1 = c)) = (findI T c).map fun x => ((x.byte.toNat : Int), x.signs.map lightOf) := by
  unfold tabOf findI
  rw [List.find?_map]
  rfl
/-- what the dict of a table holds at a letter -/
theorem TabAt.get {K : PySem.W.Frag} {H H' : Hp} {a : Addr} {T : FlagsLamp.Table} (h : TabAt K H a (tabOf T)) (s : Same H H') (c : Int) :
    ∃ o : Option V, DGet H' a (V.int c) o ∧ ((findI T c = none ∧ o = none) ∨ ∃ x b, findI T c = some x ∧ o = some (V.ref b) ∧ IL K H b (x.signs.map lightOf)) := by
  obtain ⟨kvs, h1, h2⟩ := h
  refine ⟨valV kvs (Sum.inl c), DGet.k (k := Sum.inl c) (s _ _ h1), ?_⟩
  rcases tab_val h2 c with ⟨e1, e2⟩ | ⟨p, b, e1, e2, e3⟩
  · left
    rw [tabOf_find] at e1
    exact ⟨Option.map_eq_none_iff.mp e1, e2⟩
  · right
    rw [tabOf_find] at e1
    obtain ⟨x, hx, rfl⟩ := Option.map_eq_some_iff.mp e1
    exact ⟨x, b, hx, e2, e3⟩
theorem putK_new {κ : Type} [DecidableEq κ] {kvs : List (κ × V)} {k : κ} {v : V} (h : valV kvs k = none) : putK kvs k v = kvs ++ [(k, v)] := by
  unfold putK
  rw [valV_any, h, if_neg (by simp)]
/-! ### the dict from lights to letters -/
def keyOf (l : List Bool) : List Key := l.map fun s => Sum.inl (lightOf s)
def letKvs (T : FlagsLamp.Table) : List (List Key × V) := T.map fun x => (keyOf x.signs, V.int (x.byte.toNat : Int))
def LetAt (H : Hp) (a : Addr) (T : FlagsLamp.Table) : Prop := H a = some (.dT (letKvs T))
theorem keyOf_inj : ∀ {a b : List Bool}, keyOf a = keyOf b → a = b
  | [], [], _ => rfl
  | [], _ :: _, h => by simp [keyOf] at h
  | _ :: _, [], h => by simp [keyOf] at h
  | x :: r, y :: t, h => by
    unfold keyOf at h
    rw [List.map_cons, List.map_cons] at h
    obtain ⟨h1, h2⟩ := List.cons.inj h
    rw [lightOf_inj (Sum.inl.inj h1), keyOf_inj (a := r) (b := t) h2]
theorem keyOf_vals (l : List Bool) : (keyOf l).map kV = (l.map lightOf).map V.int := by
  unfold keyOf
  rw [List.map_map, List.map_map]
  rfl
theorem letKvs_val : ∀ (T : FlagsLamp.Table) (l : List Bool), valV (letKvs T) (keyOf l) = (FlagsLamp.letterFor T l).map fun c => V.int (c.toNat : Int)
  | [], l => rfl
  | x :: r, l => by
    have ih := letKvs_val r l
    have e : letKvs (x :: r) = (keyOf x.signs, V.int (x.byte.toNat : Int)) :: letKvs r := rfl
    rw [e]
    by_cases h : x.signs = l
    · rw [valV_pos (by show keyOf x.signs = _; rw [h])]
      unfold FlagsLamp.letterFor
      rw [List.find?_cons, show (x.signs == l) = true from beq_iff_eq.mpr h]
      rfl
    · rw [valV_neg (fun q => h (keyOf_inj q)), ih]
      unfold FlagsLamp.letterFor
      rw [List.find?_cons, show (x.signs == l) = false from beq_eq_false_iff_ne.mpr h]
/-! ### loops over the keys of a dict -/
theorem for_keys {d : Addr} {o : Obj} {kvs : List (Key × V)} {g : TG} {tb : TS} {D : Ends} {σ : St} {H : Hp} (Pv : Nat → St → Hp → Prop) (h0 : Pv 0 σ H) (hl : ∀ i σ H, i ≤ kvs.length → Pv i σ H → H d = some (.frz o (.dK kvs)))
    (hs : ∀ i k v σ H, kvs[i]? = some (k, v) → Pv i σ H → g (kV k) σ H fun σ2 H2 => tb { D with nx := Pv (i + 1), ct := Pv (i + 1), bk := D.nx } σ2 H2) (hd : ∀ σ H, Pv kvs.length σ H → D.nx σ H) :
    ∃ W : Nat → Nat → St → Hp → Prop, (∃ m, W 0 m σ H) ∧ ∀ i m σ H, W i m σ H →
      ((Itk d o kvs).stop i H ∧ D.nx σ H) ∨ ((Itk d o kvs).go i H ∧ ∃ N : St → Hp → Prop, (∀ σ' H', N σ' H' → ∃ m', m' < m ∧ W (i + 1) m' σ' H') ∧ ∀ x H', (Itk d o kvs).yld i H x H' → g x σ H' fun σ2 H2 => tb { D with nx := N, ct := N, bk := D.nx } σ2 H2) := by
  refine ⟨fun i m σ H => m = kvs.length - i ∧ i ≤ kvs.length ∧ Pv i σ H, ⟨kvs.length, by simp, Nat.zero_le _, h0⟩, ?_⟩
  rintro i m σ H ⟨rfl, hi, p⟩
  have q := hl i σ H hi p
  by_cases hlt : i < kvs.length
  · refine .inr ⟨⟨q, hlt⟩, Pv (i + 1), fun σ' H' p' => ⟨kvs.length - (i + 1), by omega, rfl, hlt, p'⟩, fun x H' y => ?_⟩
    obtain ⟨e, k, v, hk, rfl⟩ := y
    subst e
    exact hs i k v σ _ hk p
  · have e : i = kvs.length := by omega
    subst e
    exact .inl ⟨⟨q, Nat.le_refl _⟩, hd σ H p⟩
/-- a range by two -/
theorem rgC_two {n : Nat} (h : n < 1000000) : RgC 0 ((2 * n : Nat) : Int) 2 n := by
  have hs : Builtin.Range.rangeSize 0 ((2 * n : Nat) : Int) 2 = n := by
    unfold Builtin.Range.rangeSize
    rw [if_pos (by decide)]
    split <;> omega
  refine ⟨by decide, by decide, ?_, hs⟩
  have f : ∀ i : Int, -10000000 ≤ i → i < 10000000 → Builtin.Range.rangeFitsLong i = true := fun i h1 h2 => by
    unfold Builtin.Range.rangeFitsLong
    rw [decide_eq_true (show -(2 ^ 63) ≤ i by omega), decide_eq_true (show i < 2 ^ 63 by omega)]; rfl
  unfold Builtin.Range.small
  rw [hs, f 0 (by omega) (by omega), f _ (by omega) (by omega), f 2 (by omega) (by omega), f (n : Int) (by omega) (by omega), if_pos (show (2 : Int) > 0 by decide), f (((2 * n : Nat) : Int) + (2 - 1)) (by omega) (by omega)]
  exact Bool.or_true _
end Lm

set_option Elab.async false
set_option linter.all false
set_option maxRecDepth 100000
set_option maxHeartbeats 4000000
namespace Lm
open PySem L2
def top (i : Nat) : Stmt := PySem.Challenge.pw_lampspeech_s01_judge.main.body.getD i (.Pass ⟨0, 0, 0, 0⟩)
abbrev s_split_lines : Stmt := top 16
abbrev s_stands_before : Stmt := top 19
abbrev s_is_pattern : Stmt := top 17
abbrev s_is_table_line : Stmt := top 18
abbrev s_line_fault : Stmt := top 20
abbrev s_table_fault : Stmt := top 21
abbrev s_judge : Stmt := top 22
structure Adr where
  split_lines : Addr
  stands_before : Addr
  is_pattern : Addr
  is_table_line : Addr
  line_fault : Addr
  table_fault : Addr
  judge : Addr
  d_split_lines : FuncData
  d_stands_before : FuncData
  d_is_pattern : FuncData
  d_is_table_line : FuncData
  d_line_fault : FuncData
  d_table_fault : FuncData
  d_judge : FuncData
/-- what the top has written -/
structure Txt (K : PySem.W.Frag) (mg : Str → Option Value) (A : Adr) : Prop where
  n_len : mg "len" = none
  n_range : mg "range" = none
  c_MOST_TABLE_BYTES : ∃ t, mg "MOST_TABLE_BYTES" = some (.int (65536) t)
  c_LINE_END : ∃ t, mg "LINE_END" = some (.int (10) t)
  c_NOT_A_LINE : ∃ t, mg "NOT_A_LINE" = some (.int (1) t)
  c_NO_FAULT : ∃ t, mg "NO_FAULT" = some (.int (0) t)
  c_LETTER_NOT_ABOVE : ∃ t, mg "LETTER_NOT_ABOVE" = some (.int (2) t)
  c_PATTERN_STANDS_BEFORE : ∃ t, mg "PATTERN_STANDS_BEFORE" = some (.int (3) t)
  c_MOST_LETTERS : ∃ t, mg "MOST_LETTERS" = some (.int (64) t)
  c_MOST_SIGNS : ∃ t, mg "MOST_SIGNS" = some (.int (8) t)
  c_SHORT : ∃ t, mg "SHORT" = some (.int (46) t)
  c_LONG : ∃ t, mg "LONG" = some (.int (45) t)
  c_LEAST_LETTER : ∃ t, mg "LEAST_LETTER" = some (.int (33) t)
  c_GREATEST_LETTER : ∃ t, mg "GREATEST_LETTER" = some (.int (126) t)
  c_BLANK : ∃ t, mg "BLANK" = some (.int (32) t)
  c_TOO_LONG : ∃ t, mg "TOO_LONG" = some (.int (-2) t)
  c_NO_TABLE : ∃ t, mg "NO_TABLE" = some (.int (-6) t)
  F_split_lines : Fun K "split_lines" "split_lines" s_split_lines A.split_lines A.d_split_lines
  g_split_lines : mg "split_lines" = some (.ref A.split_lines)
  k_split_lines : PySem.W.keepIn K (.ref A.split_lines) = true
  b_split_lines : Binds K A.d_split_lines ["t"] []
  F_stands_before : Fun K "stands_before" "stands_before" s_stands_before A.stands_before A.d_stands_before
  g_stands_before : mg "stands_before" = some (.ref A.stands_before)
  k_stands_before : PySem.W.keepIn K (.ref A.stands_before) = true
  b_stands_before : Binds K A.d_stands_before ["lines", "number"] []
  F_is_pattern : Fun K "is_pattern" "is_pattern" s_is_pattern A.is_pattern A.d_is_pattern
  g_is_pattern : mg "is_pattern" = some (.ref A.is_pattern)
  k_is_pattern : PySem.W.keepIn K (.ref A.is_pattern) = true
  b_is_pattern : Binds K A.d_is_pattern ["signs"] []
  F_is_table_line : Fun K "is_table_line" "is_table_line" s_is_table_line A.is_table_line A.d_is_table_line
  g_is_table_line : mg "is_table_line" = some (.ref A.is_table_line)
  k_is_table_line : PySem.W.keepIn K (.ref A.is_table_line) = true
  b_is_table_line : Binds K A.d_is_table_line ["line"] []
  F_line_fault : Fun K "line_fault" "line_fault" s_line_fault A.line_fault A.d_line_fault
  g_line_fault : mg "line_fault" = some (.ref A.line_fault)
  k_line_fault : PySem.W.keepIn K (.ref A.line_fault) = true
  b_line_fault : Binds K A.d_line_fault ["lines", "number"] []
  F_table_fault : Fun K "table_fault" "table_fault" s_table_fault A.table_fault A.d_table_fault
  g_table_fault : mg "table_fault" = some (.ref A.table_fault)
  k_table_fault : PySem.W.keepIn K (.ref A.table_fault) = true
  b_table_fault : Binds K A.d_table_fault ["lines"] []
  F_judge : Fun K "judge" "judge" s_judge A.judge A.d_judge
  g_judge : mg "judge" = some (.ref A.judge)
  k_judge : PySem.W.keepIn K (.ref A.judge) = true
  b_judge : Binds K A.d_judge ["t"] []
end Lm

set_option Elab.async false
set_option linter.all false
set_option maxRecDepth 100000
set_option maxHeartbeats 4000000
namespace Lm
open PySem L2
section
variable {P : Program} {w : World} {K : PySem.W.Frag} {mg : Str → Option Value} {base : Heap} {A : Adr}

/-! is_pattern -/
def sp_is_pattern (K : PySem.W.Frag) : Sp := fun vs H Q _ => ∃ a ns, vs = [.ref a] ∧ IL K H a ns ∧ Q (.bl (isPat ns)) H
theorem sc_is_pattern : FnScope ["signs", "sign"] ["signs"] (defScope s_is_pattern) := ⟨rfl, rfl, rfl, by decide +kernel, rfl, by decide +kernel, by decide +kernel⟩
theorem ok_is_pattern (T : Txt K mg A) : FnOk P w K mg base CX0 1 A.is_pattern A.d_is_pattern ["signs"] (sp_is_pattern K) := by
  refine T.F_is_pattern.ok sc_is_pattern (fun vs H Q E h => ?_) (fun cdv B outer s H vs Q E hr h => ?_)
  · obtain ⟨a, ns, rfl, _⟩ := h
    rfl
  · obtain ⟨a, ns, rfl, ha, k⟩ := h
    refine ⟨_, pss_cons (ps_if (PW.pt (pw_or (pt_cmpR op_lt (pe_callB call_len_seq (by rfl) T.n_len PySem.boot_len (pa_cons (pv 0) pa_nil)) (pe_int) (nomark _)) (pw_or1 (pt_cmpR op_gt (pe_callB call_len_seq (by rfl) T.n_len PySem.boot_len (pa_cons (pv 0) pa_nil)) (pgi T.c_MOST_SIGNS) (nomark _)))))
        (pss_one (ps_ret (pe_bl)))
        (pss_nil))
      (pss_cons (ps_for PassesOwn.never rfl (pi_list (pv 0)) (pg_name (i := 1) sc_is_pattern.nd rfl (Or.inl rfl))
        (pss_one (ps_if (PW.pt (pw_and (pt_cmpR op_ne (pv 1) (pgi T.c_SHORT) (nomark _)) (pw_and1 (pt_cmpR op_ne (pv 1) (pgi T.c_LONG) (nomark _)))))
          (pss_one (ps_ret (pe_bl)))
          (pss_nil))))
      (pss_one (ps_ret (pe_bl)))), ?_⟩
    have hl : (ns.map V.int).length = ns.length := List.length_map ..
    refine ⟨_, rfl, a, _, rfl, .inl ha, _, _, rfl, rfl, _, rfl, ifD (fun h1 => ?_) (fun h1 => ?_)⟩
    · -- len < 1
      have e : isPat ns = false := by
        have : ns.length = 0 := by omega
        simp [isPat, this]
      exact iteT (show Q (.bl false) H by rw [← e]; exact k)
    · refine ⟨_, rfl, a, _, rfl, .inl ha, _, _, rfl, rfl, _, rfl, ifD (fun h2 => ?_) (fun h2 => ?_)⟩
      · have e : isPat ns = false := by
          have : ¬ ns.length ≤ 8 := by omega
          simp [isPat, this]
        show Q (.bl false) H
        rw [← e]; exact k
      · refine ⟨_, rfl, a, rfl, ⟨_, ha⟩, for_list (K := K) (a := a) (xs := ns.map V.int) (fun i σ H2 => ∃ v, σ = [some (.ref a), v] ∧ H2 = H ∧ ∀ n ∈ ns.take i, n = 46 ∨ n = 45) ⟨none, rfl, rfl, by simp⟩ (fun i σ H2 _ ⟨_, _, e, _⟩ => by rw [e]; exact ha) ?_ ?_⟩
        · rintro i y σ H2 hi ⟨v, rfl, rfl, hp⟩
          obtain ⟨z, hz, rfl⟩ := map_get_int hi
          have bad : ¬ (z = 46 ∨ z = 45) → isPat ns = false := fun hn => by
            have : (ns.all fun n => decide (n = 46) || decide (n = 45)) = false := by
              rw [List.all_eq_false]
              exact ⟨z, List.mem_of_getElem? hz, by simpa using hn⟩
            simp [isPat, this]
          have next : (z = 46 ∨ z = 45) → ∀ n ∈ ns.take (i + 1), n = 46 ∨ n = 45 := fun hy n hn => by
            rw [List.take_add_one, hz] at hn
            rcases List.mem_append.mp hn with h | h
            · exact hp n h
            · simp at h; subst h; exact hy
          refine ⟨_, rfl, rfl, _, rfl, ifNE (fun h3 => ?_) (fun h3 => ?_)⟩
          · refine ⟨_, rfl, rfl, _, rfl, ifNE (fun h4 => ?_) (fun h4 => ?_)⟩
            · show Q (.bl false) H2
              rw [← bad (by omega)]; exact k
            · exact ⟨_, rfl, rfl, next (.inr h4)⟩
          · exact iteF ⟨_, rfl, rfl, next (.inl h3)⟩
        · rintro σ H2 ⟨v, rfl, rfl, hp⟩
          have e : isPat ns = true := by
            rw [hl, List.take_length] at hp
            have h3 : (ns.all fun n => decide (n = 46) || decide (n = 45)) = true := by
              rw [List.all_eq_true]
              intro n hn
              simpa using hp n hn
            have h4 : 1 ≤ ns.length := by omega
            have h5 : ns.length ≤ 8 := by omega
            simp only [isPat, h3, h4, h5, decide_true, Bool.and_true]
          show Q (.bl true) H2
          rw [← e]; exact k
end
end Lm

set_option Elab.async false
set_option linter.all false
set_option maxRecDepth 100000
set_option maxHeartbeats 4000000
namespace Lm
open PySem L2
theorem cut_map (ns : List Int) (lo hi : Option Int) : cutV (ns.map V.int) lo hi = (((ns.drop (HT.sIx ns.length 0 lo)).take (HT.sIx ns.length ns.length hi - HT.sIx ns.length 0 lo)).map V.int) := by
  unfold cutV
  rw [List.length_map, ← List.map_drop, ← List.map_take]
theorem cut_ref (ns : List Addr) (lo hi : Option Int) : cutV (ns.map V.ref) lo hi = (((ns.drop (HT.sIx ns.length 0 lo)).take (HT.sIx ns.length ns.length hi - HT.sIx ns.length 0 lo)).map V.ref) := by
  unfold cutV
  rw [List.length_map, ← List.map_drop, ← List.map_take]
section
variable {P : Program} {w : World} {K : PySem.W.Frag} {mg : Str → Option Value} {base : Heap} {A : Adr}

/-! is_table_line -/
def sp_is_table_line (K : PySem.W.Frag) : Sp := fun vs H Q _ => ∃ a ns, vs = [.ref a] ∧ IL K H a ns ∧ ∀ H', Same H H' → Q (.bl (isLine ns)) H'
theorem sc_is_table_line : FnScope ["line", "last"] ["line"] (defScope s_is_table_line) := ⟨rfl, rfl, rfl, by decide +kernel, rfl, by decide +kernel, by decide +kernel⟩
theorem ok_is_table_line (T : Txt K mg A) : FnOk P w K mg base CX0 2 A.is_table_line A.d_is_table_line ["line"] (sp_is_table_line K) := by
  have G_is_pattern : FnOk P w K mg base CX0 1 A.is_pattern A.d_is_pattern ["signs"] (sp_is_pattern K) := ok_is_pattern T
  refine T.F_is_table_line.ok sc_is_table_line (fun vs H Q E h => ?_) (fun cdv B outer s H vs Q E hr h => ?_)
  · obtain ⟨a, ns, rfl, _⟩ := h
    rfl
  · obtain ⟨a, ns, rfl, ha, k⟩ := h
    refine ⟨_, pss_cons (ps_set (i := 1) sc_is_table_line.nd rfl (Or.inl rfl) (pe_op op_sub (pe_callB call_len_seq (by rfl) T.n_len PySem.boot_len (pa_cons (pv 0) pa_nil)) (pe_int)))
      (pss_cons (ps_if (pt_cmpR op_lt (pv 1) (pe_int) (nomark _))
        (pss_one (ps_ret (pe_bl)))
        (pss_nil))
      (pss_cons (ps_if (PW.pt (pw_or (pt_cmpR op_lt (pe_ix ix_list (pv 0) (pe_int) (fun _ _ => rfl)) (pgi T.c_LEAST_LETTER) (nomark _)) (pw_or1 (pt_cmpR op_gt (pe_ix ix_list (pv 0) (pe_int) (fun _ _ => rfl)) (pgi T.c_GREATEST_LETTER) (nomark _)))))
        (pss_one (ps_ret (pe_bl)))
        (pss_nil))
      (pss_cons (ps_if (PW.pt (pw_or (pt_cmpR op_ne (pe_ix ix_list (pv 0) (pe_int) (fun _ _ => rfl)) (pgi T.c_BLANK) (nomark _)) (pw_or1 (pt_cmpR op_ne (pe_ix ix_list (pv 0) (pv 1) (fun _ _ => rfl)) (pgi T.c_LINE_END) (nomark _)))))
        (pss_one (ps_ret (pe_bl)))
        (pss_nil))
      (pss_one (ps_ret (pe_call G_is_pattern (hr.mono (by decide)) rfl T.g_is_pattern T.k_is_pattern T.b_is_pattern .nil pass0 (pa_cons (pe_slice sl_list (pv 0) (po_some (pe_int)) (po_some (pv 1))) pa_nil))))))), ?_⟩
    have hl : (ns.map V.int).length = ns.length := List.length_map ..
    have kf : isLine ns = false → Q (.bl false) H := fun e => by rw [← e]; exact k _ (Same.refl H)
    refine ⟨_, rfl, a, _, rfl, .inl ha, _, _, rfl, rfl, ?_⟩
    rw [hl]
    refine ⟨_, rfl, _, _, rfl, rfl, _, rfl, ifD (fun h1 => ?_) (fun h1 => ?_)⟩
    · refine kf ?_
      unfold isLine
      rw [if_pos (by omega)]
    · have g0 := at_int (z := 0) (getD_get (ns := ns) (i := 0) (by omega))
      have g1 := at_int (z := 1) (getD_get (ns := ns) (i := 1) (by omega))
      have g2 := at_int (z := (ns.length : Int) - 1) (getD_get (ns := ns) (i := ns.length - 1) (by omega))
      have n1 : ¬ ns.length < 3 := by omega
      refine ⟨_, rfl, a, _, _, _, rfl, rfl, ha, g0, _, _, rfl, rfl, _, rfl, ifD (fun h2 => ?_) (fun h2 => ?_)⟩
      · refine iteT (kf ?_)
        unfold isLine
        rw [if_neg n1, if_pos (.inl h2)]
      · refine ⟨_, rfl, a, _, _, _, rfl, rfl, ha, g0, _, _, rfl, rfl, _, rfl, ifD (fun h3 => ?_) (fun h3 => ?_)⟩
        · refine kf ?_
          unfold isLine
          rw [if_neg n1, if_pos (.inr h3)]
        · have n2 : ¬ (ns.getD 0 0 < 33 ∨ 126 < ns.getD 0 0) := by omega
          refine ⟨_, rfl, a, _, _, _, rfl, rfl, ha, g1, rfl, _, rfl, ifNE (fun h4 => ?_) (fun h4 => ?_)⟩
          · refine iteT (kf ?_)
            unfold isLine
            rw [if_neg n1, if_neg n2, if_pos (.inl h4)]
          · refine ⟨_, rfl, _, rfl, a, _, _, _, rfl, rfl, ha, g2, rfl, _, rfl, ifNE (fun h5 => ?_) (fun h5 => ?_)⟩
            · refine kf ?_
              unfold isLine
              rw [if_neg n1, if_neg n2, if_pos (.inr h5)]
            · have n3 : ¬ (ns.getD 1 0 ≠ 32 ∨ ns.getD (ns.length - 1) 0 ≠ 10) := by omega
              refine ⟨_, rfl, _, rfl, _, rfl, _, rfl, a, _, rfl, ha, fun p hp => ?_⟩
              rw [cut_map]
              refine ⟨p, _, rfl, .inl (.inl upd_same), ?_⟩
              have e : isLine ns = isPat ((ns.drop 2).take (ns.length - 1 - 2)) := by
                unfold isLine
                rw [if_neg n1, if_neg n2, if_neg n3]
              have e2 : HT.sIx ns.length 0 (some 2) = 2 := by
                rw [show (2 : Int) = ((2 : Nat) : Int) from rfl, HT.sIx_nat]; omega
              have e3 : HT.sIx ns.length ns.length (some ((ns.length : Int) - 1)) = ns.length - 1 := by
                rw [show (ns.length : Int) - 1 = ((ns.length - 1 : Nat) : Int) by omega, HT.sIx_nat]; omega
              have q := k _ (Same.new (o := .lst (((ns.drop 2).take (ns.length - 1 - 2)).map V.int)) hp)
              rw [e] at q
              rw [e2, e3]
              exact q
end
end Lm

set_option Elab.async false
set_option linter.all false
set_option maxRecDepth 100000
set_option maxHeartbeats 4000000
namespace Lm
open PySem L2
section
variable {P : Program} {w : World} {K : PySem.W.Frag} {mg : Str → Option Value} {base : Heap} {A : Adr}

/-! stands_before -/
def sp_stands_before (K : PySem.W.Frag) : Sp := fun vs H Q _ => ∃ (a : Addr) (rows : List (List Int)) (n : Nat), vs = [.ref a, .int n] ∧ RowsAt K H a rows ∧ n < rows.length ∧ (∀ r ∈ rows, r ≠ []) ∧ ∀ H', Same H H' → Q (.bl (stands rows n)) H'
theorem sIx1 {n : Nat} (h : 0 < n) : HT.sIx n 0 (some 1) = 1 := by
  rw [show (1 : Int) = ((1 : Nat) : Int) from rfl, HT.sIx_nat]; omega
theorem cut1 {ns : List Int} (h : ns ≠ []) : cutV (ns.map V.int) (some 1) none = (ns.drop 1).map V.int := by
  have hl : 0 < ns.length := List.length_pos_iff.mpr h
  rw [cut_map, sIx1 hl, HT.sIx_none, List.take_of_length_le (by rw [List.length_drop]; omega)]
theorem sc_stands_before : FnScope ["lines", "number", "earlier"] ["lines", "number"] (defScope s_stands_before) := ⟨rfl, rfl, rfl, by decide +kernel, rfl, by decide +kernel, by decide +kernel⟩
theorem ok_stands_before (T : Txt K mg A) : FnOk P w K mg base CX0 1 A.stands_before A.d_stands_before ["lines", "number"] (sp_stands_before K) := by
  refine T.F_stands_before.ok sc_stands_before (fun vs H Q E h => ?_) (fun cdv B outer s H vs Q E hr h => ?_)
  · obtain ⟨a, rows, n, rfl, _⟩ := h
    rfl
  · obtain ⟨a, rows, n, rfl, ha, hn, hne, k⟩ := h
    refine ⟨_, pss_cons (ps_for PassesOwn.never rfl (pi_list (pe_slice sl_list (pv 0) po_none (po_some (pv 1)))) (pg_name (i := 2) sc_stands_before.nd rfl (Or.inl rfl))
        (pss_one (ps_if (pt_cmpR (op_eqI hr.units) (pe_slice sl_list (pv 2) (po_some (pe_int)) po_none) (pe_slice sl_list (pe_ix ix_list (pv 0) (pv 1) (fun _ _ => rfl)) (po_some (pe_int)) po_none) (nomark _))
          (pss_one (ps_ret (pe_bl)))
          (pss_nil))))
      (pss_one (ps_ret (pe_bl))), ?_⟩
    obtain ⟨as, hs, hR⟩ := ha
    have hlen := Rows.len hR
    refine ⟨_, rfl, _, rfl, _, rfl, a, _, rfl, hs, fun p hp => ?_⟩
    have ecut : cutV (as.map V.ref) none (some (n : Int)) = (as.take n).map V.ref := by
      rw [cut_ref, HT.sIx_none, HT.sIx_nat, List.drop_zero]
      congr 2
      omega
    rw [ecut]
    have s0 : Same H (upd H p (.lst ((as.take n).map V.ref))) := Same.new hp
    obtain ⟨an, ean, hRn⟩ := Rows.get hR (getD_row hn)
    refine ⟨p, rfl, ⟨_, .inl (.inl upd_same)⟩, for_list (K := K) (a := p) (xs := (as.take n).map V.ref) (fun i σ H2 => ∃ v, σ = [some (.ref a), some (.int n), v] ∧ Same (upd H p (.lst ((as.take n).map V.ref))) H2 ∧ (rows.take i).any (fun r => decide (r.drop 1 = (rows.getD n []).drop 1)) = false) ⟨none, rfl, Same.refl _, rfl⟩ (fun i σ H2 _ ⟨_, _, e, _⟩ => .inl (.inl (e _ _ upd_same))) ?_ ?_⟩
    · rintro i y σ H2 hi ⟨v, rfl, s2, hno⟩
      obtain ⟨ai, hai, rfl⟩ := map_get_ref hi
      have hin : i < n := by
        have := (List.getElem?_eq_some_iff.mp hai).1
        rw [List.length_take] at this; omega
      have hai' : as[i]? = some ai := by rw [List.getElem?_take, if_pos hin] at hai; exact hai
      obtain ⟨ri, hri, hIL⟩ := Rows.getA hR hai'
      have hri' : ri ≠ [] := hne ri (List.mem_of_getElem? hri)
      have hrn' : rows.getD n [] ≠ [] := hne _ (List.mem_of_getElem? (getD_row hn))
      have hIL2 : IL K H2 ai ri := s2.seq (s0.seq hIL)
      refine ⟨_, rfl, _, rfl, ai, _, rfl, hIL2, fun p1 hp1 => ?_⟩
      rw [cut1 hri']
      have s3 := s0.trans (s2.trans (Same.new (o := .lst ((ri.drop 1).map V.int)) hp1))
      refine ⟨_, rfl, _, rfl, a, _, _, _, rfl, rfl, s3.seq hs, at_ref ean rfl, _, rfl, an, _, rfl, s3.seq hRn, fun p2 hp2 => ?_⟩
      rw [cut1 hrn']
      have s4 := s3.trans (Same.new (o := .lst (((rows.getD n []).drop 1).map V.int)) hp2)
      have s24 := (s2.trans (Same.new (o := .lst ((ri.drop 1).map V.int)) hp1)).trans (Same.new (o := .lst (((rows.getD n []).drop 1).map V.int)) hp2)
      refine ⟨p1, p2, ri.drop 1, (rows.getD n []).drop 1, rfl, rfl, ?_, .inl (.inl upd_same), _, rfl, ifD (fun h1 => ?_) (fun h1 => ?_)⟩
      · exact .inl (.inl (by rw [upd_ne (ne_of_none (upd_same) hp2)]; exact upd_same))
      · have e : stands rows n = true := by
          unfold stands
          rw [List.any_eq_true]
          exact ⟨ri, List.mem_of_getElem? (i := i) (by rw [List.getElem?_take, if_pos hin]; exact hri), decide_eq_true h1⟩
        show Q (.bl true) _
        rw [← e]; exact k _ s4
      · refine ⟨_, rfl, s24, ?_⟩
        rw [List.take_add_one, hri, List.any_append, hno]
        simpa using h1
    · rintro σ H2 ⟨v, rfl, s2, hno⟩
      have e : stands rows n = false := by
        unfold stands
        rw [List.length_map, List.length_take, Nat.min_eq_left (by omega)] at hno
        exact hno
      show Q (.bl false) H2
      rw [← e]; exact k _ (s0.trans s2)

/-! line_fault -/
def sp_line_fault (K : PySem.W.Frag) : Sp := fun vs H Q _ => ∃ (a : Addr) (rows : List (List Int)) (n : Nat), vs = [.ref a, .int n] ∧ RowsAt K H a rows ∧ n < rows.length ∧ (∀ r ∈ rows, r ≠ []) ∧ ∀ H', Same H H' → Q (.int (fault rows n)) H'
theorem sc_line_fault : FnScope ["lines", "number"] ["lines", "number"] (defScope s_line_fault) := ⟨rfl, rfl, rfl, by decide +kernel, rfl, by decide +kernel, by decide +kernel⟩
theorem ok_line_fault (T : Txt K mg A) : FnOk P w K mg base CX0 3 A.line_fault A.d_line_fault ["lines", "number"] (sp_line_fault K) := by
  have G_is_table_line : FnOk P w K mg base CX0 2 A.is_table_line A.d_is_table_line ["line"] (sp_is_table_line K) := ok_is_table_line T
  have G_stands_before : FnOk P w K mg base CX0 1 A.stands_before A.d_stands_before ["lines", "number"] (sp_stands_before K) := ok_stands_before T
  refine T.F_line_fault.ok sc_line_fault (fun vs H Q E h => ?_) (fun cdv B outer s H vs Q E hr h => ?_)
  · obtain ⟨a, rows, n, rfl, _⟩ := h
    rfl
  · obtain ⟨a, rows, n, rfl, ha, hn, hne, k⟩ := h
    refine ⟨_, pss_cons (ps_if (PW.pt (pw_or (pt_cmpR op_ge (pv 1) (pgi T.c_MOST_LETTERS) (nomark _)) (pw_or1 (pt_not (pt_val (pe_call G_is_table_line (hr.mono (by decide)) rfl T.g_is_table_line T.k_is_table_line T.b_is_table_line .nil pass0 (pa_cons (pe_ix ix_list (pv 0) (pv 1) (fun _ _ => rfl)) pa_nil)))))))
        (pss_one (ps_ret (pgi T.c_NOT_A_LINE)))
        (pss_nil))
      (pss_cons (ps_if (PW.pt (pw_and (pt_cmpR op_gt (pv 1) (pe_int) (nomark _)) (pw_and1 (pt_cmpR op_le (pe_ix ix_list (pe_ix ix_list (pv 0) (pv 1) (fun _ _ => rfl)) (pe_int) (fun _ _ => rfl)) (pe_ix ix_list (pe_ix ix_list (pv 0) (pe_op op_sub (pv 1) (pe_int)) (fun _ _ => rfl)) (pe_int) (fun _ _ => rfl)) (nomark _)))))
        (pss_one (ps_ret (pgi T.c_LETTER_NOT_ABOVE)))
        (pss_nil))
      (pss_cons (ps_if (pt_val (pe_call G_stands_before (hr.mono (by decide)) rfl T.g_stands_before T.k_stands_before T.b_stands_before .nil pass0 (pa_cons (pv 0) (pa_cons (pv 1) pa_nil))))
        (pss_one (ps_ret (pgi T.c_PATTERN_STANDS_BEFORE)))
        (pss_nil))
      (pss_one (ps_ret (pgi T.c_NO_FAULT))))), ?_⟩
    obtain ⟨as, hs, hR⟩ := id ha
    obtain ⟨an, ean, hRn⟩ := Rows.get hR (getD_row hn)
    have hrn' : rows.getD n [] ≠ [] := hne _ (List.mem_of_getElem? (getD_row hn))
    -- behind the first if: H1
    have rest : ∀ H1, Same H H1 → 64 > n → isLine (rows.getD n []) = true →
        (∀ H2, Same H H2 → ¬ (0 < n ∧ (rows.getD n []).getD 0 0 ≤ (rows.getD (n - 1) []).getD 0 0) → sp_stands_before K [.ref a, .int n] H2 (fun v H3 => ∃ b, v = .bl b ∧ if b = true then Q (.int 3) H3 else Q (.int 0) H3) fun _ _ _ => False) := fun H1 s1 h64 hL H2 s2 h2 => by
      refine ⟨a, rows, n, rfl, ha.same s2, hn, hne, fun H3 s3 => ⟨_, rfl, ifB (fun hb => ?_) (fun hb => ?_)⟩⟩
      · have e : fault rows n = 3 := by
          unfold fault
          rw [if_neg (by rw [hL]; simp; omega), if_neg h2, if_pos hb]
        rw [← e]; exact k _ (s2.trans s3)
      · have e : fault rows n = 0 := by
          unfold fault
          rw [if_neg (by rw [hL]; simp; omega), if_neg h2, if_neg (by rw [hb]; exact Bool.false_ne_true)]
        rw [← e]; exact k _ (s2.trans s3)
    refine ⟨_, rfl, _, _, rfl, rfl, _, rfl, ifD (fun h1 => ?_) (fun h1 => ?_)⟩
    · refine iteT ?_
      have e : fault rows n = 1 := by
        unfold fault
        rw [if_pos (.inl (by omega))]
      show Q (.int 1) H
      rw [← e]; exact k _ (Same.refl H)
    · refine ⟨_, rfl, _, rfl, a, _, _, _, rfl, rfl, hs, at_ref ean rfl, an, _, rfl, hRn, fun H1 s1 => ⟨_, rfl, ifN (fun hL => ?_) (fun hL => ?_)⟩⟩
      · have e : fault rows n = 1 := by
          unfold fault
          rw [if_pos (.inr hL)]
        show Q (.int 1) H1
        rw [← e]; exact k _ s1
      · have tl := rest H1 s1 (by omega) hL
        refine ⟨_, rfl, _, _, rfl, rfl, _, rfl, ifD (fun h2 => ?_) (fun h2 => ?_)⟩
        · have hn1 : n - 1 < rows.length := by omega
          obtain ⟨am, eam, hRm⟩ := Rows.get hR (getD_row hn1)
          have hrm' : rows.getD (n - 1) [] ≠ [] := hne _ (List.mem_of_getElem? (getD_row hn1))
          refine ⟨_, rfl, _, rfl, a, _, _, _, rfl, rfl, s1.seq hs, at_ref ean rfl, an, _, _, _, rfl, rfl, s1.seq hRn, at_int (getD_get (List.length_pos_iff.mpr hrn')) rfl,
            _, rfl, _, rfl, _, _, rfl, rfl, a, _, _, _, rfl, rfl, s1.seq hs, at_ref eam (by omega), am, _, _, _, rfl, rfl, s1.seq hRm, at_int (getD_get (List.length_pos_iff.mpr hrm')) rfl,
            _, _, rfl, rfl, _, rfl, ifD (fun h3 => ?_) (fun h3 => ?_)⟩
          · have e : fault rows n = 2 := by
              unfold fault
              rw [if_neg (by rw [hL]; simp; omega), if_pos ⟨by omega, h3⟩]
            show Q (.int 2) H1
            rw [← e]; exact k _ s1
          · exact ⟨_, rfl, _, rfl, tl H1 s1 (by omega)⟩
        · exact iteF ⟨_, rfl, _, rfl, tl H1 s1 (by omega)⟩
end
end Lm

set_option Elab.async false
set_option linter.all false
set_option maxRecDepth 100000
set_option maxHeartbeats 4000000
namespace Lm
open PySem L2
section
variable {P : Program} {w : World} {K : PySem.W.Frag} {mg : Str → Option Value} {base : Heap} {A : Adr}

/-! table_fault -/
def sp_table_fault (K : PySem.W.Frag) : Sp := fun vs H Q _ => ∃ (a : Addr) (rows : List (List Int)), vs = [.ref a] ∧ RowsAt K H a rows ∧ rows.length < 1000000 ∧ (∀ r ∈ rows, r ≠ []) ∧ ∀ H' p, Same H H' → H' p = some (.lst ((tabFault rows).map V.int)) → Q (.ref p) H'
theorem sc_table_fault : FnScope ["lines", "number", "kind"] ["lines"] (defScope s_table_fault) := ⟨rfl, rfl, rfl, by decide +kernel, rfl, by decide +kernel, by decide +kernel⟩
theorem ok_table_fault (T : Txt K mg A) : FnOk P w K mg base CX0 4 A.table_fault A.d_table_fault ["lines"] (sp_table_fault K) := by
  have G_line_fault : FnOk P w K mg base CX0 3 A.line_fault A.d_line_fault ["lines", "number"] (sp_line_fault K) := ok_line_fault T
  refine T.F_table_fault.ok sc_table_fault (fun vs H Q E h => ?_) (fun cdv B outer s H vs Q E hr h => ?_)
  · obtain ⟨a, rows, rfl, _⟩ := h
    rfl
  · obtain ⟨a, rows, rfl, ha, hbig, hne, k⟩ := h
    refine ⟨_, pss_cons (ps_if (pt_cmpR op_eq (pe_callB call_len_seq (by rfl) T.n_len PySem.boot_len (pa_cons (pv 0) pa_nil)) (pe_int) (nomark _))
        (pss_one (ps_ret (pe_lst (pa_cons (pgi T.c_NOT_A_LINE) (pa_cons (pe_int) pa_nil)))))
        (pss_nil))
      (pss_cons (ps_for PassesOwn.never rfl (pi_range1 rfl T.n_range (pa_cons (pe_callB call_len_seq (by rfl) T.n_len PySem.boot_len (pa_cons (pv 0) pa_nil)) pa_nil)) (pg_name (i := 1) sc_table_fault.nd rfl (Or.inl rfl))
        (pss_cons (ps_set (i := 2) sc_table_fault.nd rfl (Or.inl rfl) (pe_call G_line_fault (hr.mono (by decide)) rfl T.g_line_fault T.k_line_fault T.b_line_fault .nil pass0 (pa_cons (pv 0) (pa_cons (pv 1) pa_nil))))
        (pss_one (ps_if (pt_cmpR op_ne (pv 2) (pgi T.c_NO_FAULT) (nomark _))
          (pss_one (ps_ret (pe_lst (pa_cons (pv 2) (pa_cons (pv 1) pa_nil)))))
          (pss_nil)))))
      (pss_one (ps_ret (pe_lst pa_nil)))), ?_⟩
    obtain ⟨as, hs, hR⟩ := id ha
    have hlen := Rows.len hR
    have hl : (as.map V.ref).length = rows.length := by rw [List.length_map]; exact hlen
    refine ⟨_, rfl, a, _, rfl, .inl hs, ?_⟩
    rw [hl]
    refine ⟨rfl, _, rfl, ifE (fun h1 => ?_) (fun h1 => ?_)⟩
    · refine ⟨(by show 2 ≤ sizeLine; decide), fun p hp => ?_⟩
      have e : tabFault rows = [1, 0] := by
        unfold tabFault
        rw [if_pos (by omega)]
      exact k _ p (Same.new hp) (by rw [e]; exact upd_same)
    · have h0 : ¬ rows.length = 0 := by omega
      refine ⟨_, rfl, a, _, rfl, .inl hs, ?_⟩
      rw [hl]
      refine ⟨_, rfl, by omega, by omega, ?_⟩
      rw [Int.toNat_natCast]
      refine for_range (n := rows.length) (fun i σ H2 => ∃ v u, σ = [some (.ref a), v, u] ∧ Same H H2 ∧ ∀ j, j < i → fault rows j = 0) ⟨none, none, rfl, Same.refl H, fun j hj => absurd hj (Nat.not_lt_zero j)⟩ ?_ ?_
      · rintro i σ H2 hi ⟨v, u, rfl, s2, hb⟩
        refine ⟨_, rfl, _, rfl, a, rows, i, ?_, ha.same s2, hi, hne, fun H3 s3 => ?_⟩
        · rw [Int.zero_add]; rfl
        · have s23 := s2.trans s3
          refine ⟨_, rfl, rfl, _, rfl, ifNE (fun h2 => ?_) (fun h2 => ?_)⟩
          · refine ⟨_, rfl, _, rfl, (by show 2 ≤ sizeLine; decide), fun p hp => ?_⟩
            have e : tabFault rows = [fault rows i, (i : Int)] := by
              unfold tabFault
              rw [if_neg h0, find_range (p := fun n => decide (fault rows n ≠ 0)) hi (decide_eq_true h2) (fun j hj => decide_eq_false (by simpa using hb j hj))]
            refine k _ p (s23.trans (Same.new hp)) ?_
            rw [e, upd_same, Int.zero_add]
            rfl
          · refine ⟨_, _, rfl, s23, fun j hj => ?_⟩
            by_cases hji : j = i
            · rw [hji]; exact h2
            · exact hb j (by omega)
      · rintro σ H2 ⟨v, u, rfl, s2, hb⟩
        refine ⟨(by show 0 ≤ sizeLine; decide), fun p hp => ?_⟩
        have e : tabFault rows = [] := by
          unfold tabFault
          rw [if_neg h0, find_range_none (p := fun n => decide (fault rows n ≠ 0)) (fun j hj => decide_eq_false (by simpa using hb j hj))]
        refine k _ p (s2.trans (Same.new hp)) ?_
        rw [e, upd_same]
        rfl

/-! split_lines -/
def sp_split_lines (K : PySem.W.Frag) : Sp := fun vs H Q _ => ∃ (a : Addr) (t : List Int), vs = [.ref a] ∧ IL K H a t ∧ t.length < 1000000 ∧ ∀ H' p, Same H H' → RowsAt K H' p (splitM t) → Q (.ref p) H'
theorem sc_split_lines : FnScope ["t", "lines", "line", "byte"] ["t"] (defScope s_split_lines) := ⟨rfl, rfl, rfl, by decide +kernel, rfl, by decide +kernel, by decide +kernel⟩
theorem ok_split_lines (T : Txt K mg A) : FnOk P w K mg base CX0 1 A.split_lines A.d_split_lines ["t"] (sp_split_lines K) := by
  refine T.F_split_lines.ok sc_split_lines (fun vs H Q E h => ?_) (fun cdv B outer s H vs Q E hr h => ?_)
  · obtain ⟨a, t, rfl, _⟩ := h
    rfl
  · obtain ⟨a, t, rfl, ha, hbig, k⟩ := h
    refine ⟨_, pss_cons (ps_set (i := 1) sc_split_lines.nd rfl (Or.inl rfl) (pe_lst pa_nil))
      (pss_cons (ps_set (i := 2) sc_split_lines.nd rfl (Or.inl rfl) (pe_lst pa_nil))
      (pss_cons (ps_for PassesOwn.never rfl (pi_list (pv 0)) (pg_name (i := 3) sc_split_lines.nd rfl (Or.inl rfl))
        (pss_cons (ps_expr (pe_bm PySem.F.plainAttrs_list PySem.F.slot_list_append PySem.F.type_list_append mt_append (pv 2) (pa_cons (pv 3) pa_nil)))
        (pss_one (ps_if (pt_cmpR op_eq (pv 3) (pgi T.c_LINE_END) (nomark _))
          (pss_cons (ps_expr (pe_bm PySem.F.plainAttrs_list PySem.F.slot_list_append PySem.F.type_list_append mt_append (pv 1) (pa_cons (pv 2) pa_nil)))
          (pss_one (ps_set (i := 2) sc_split_lines.nd rfl (Or.inl rfl) (pe_lst pa_nil))))
          (pss_nil)))))
      (pss_cons (ps_if (pt_cmpR op_gt (pe_callB call_len_seq (by rfl) T.n_len PySem.boot_len (pa_cons (pv 2) pa_nil)) (pe_int) (nomark _))
        (pss_one (ps_expr (pe_bm PySem.F.plainAttrs_list PySem.F.slot_list_append PySem.F.type_list_append mt_append (pv 1) (pa_cons (pv 2) pa_nil))))
        (pss_nil))
      (pss_one (ps_ret (pv 1)))))), ?_⟩
    have hSz : sizeLine = 16777216 := rfl
    refine ⟨(by show 0 ≤ sizeLine; decide), fun L hL => ⟨(by show 0 ≤ sizeLine; decide), fun l hl => ?_⟩⟩
    have hLl : L ≠ l := ne_of_none upd_same hl
    have hl' : H l = none := by rw [upd_ne hLl.symm] at hl; exact hl
    have s0 : Same H (upd (upd H L (.lst [])) l (.lst [])) := (Same.new hL).trans (Same.new hl)
    refine ⟨_, rfl, a, rfl, ⟨_, s0.seq ha⟩, for_list (K := K) (a := a) (xs := t.map V.int) (fun i σ H2 => ∃ v l as, σ = [some (.ref a), some (.ref L), some (.ref l), v] ∧ Same H H2 ∧ H2 L = some (.lst (as.map V.ref)) ∧ H2 l = some (.lst (((t.take i).foldl spStep ([], [])).2.map V.int)) ∧
      Rows K H2 as ((t.take i).foldl spStep ([], [])).1 ∧ H l = none ∧ L ≠ l ∧ (∀ x ∈ as, x ≠ L ∧ x ≠ l) ∧ ∀ x ∈ as, ∃ u, H2 x = some u) ⟨none, l, [], rfl, s0, ?_, upd_same, .nil, hl', hLl, by simp, by simp⟩ (fun i σ H2 _ ⟨_, _, _, _, e, _⟩ => e.seq ha) ?_ ?_⟩
    · rw [upd_ne hLl]; exact upd_same
    · rintro i y σ H2 hi ⟨v, l, as, rfl, s2, hL2, hl2, hR, hlH, hLl, hd, hx⟩
      obtain ⟨z, hz, rfl⟩ := map_get_int hi
      have hi' : i < t.length := (List.getElem?_eq_some_iff.mp hz).1
      have hz1 := sp_sizes (t.take i) ([], [])
      have hlt : (t.take i).length ≤ i := by rw [List.length_take]; omega
      generalize est : (t.take i).foldl spStep ([], []) = st at hl2 hR hz1
      obtain ⟨ls, cur⟩ := st
      have enext : (t.take (i + 1)).foldl spStep ([], []) = spStep (ls, cur) z := by
        rw [List.take_add_one, hz, List.foldl_append, est]; rfl
      have hz2 : ls.length + cur.length ≤ 0 + 0 + (t.take i).length := hz1
      have hlen2 : (cur.map V.int).length < sizeLine := by rw [List.length_map, hSz]; omega
      have hlen1 : (as.map V.ref).length < sizeLine := by rw [List.length_map, Rows.len hR, hSz]; show ls.length < _; omega
      refine ⟨_, rfl, .inl ⟨rfl, _, SqL.of hl2⟩, _, rfl, l, _, _, rfl, rfl, hl2, hlen2, _, rfl, rfl, _, rfl, ifE (fun h1 => ?_) (fun h1 => ?_)⟩
      · -- byte == 10
        refine ⟨_, rfl, .inl ⟨rfl, as.map V.ref, SqL.of (by rw [upd_ne hLl]; exact hL2)⟩, _, rfl, L, as.map V.ref, _, rfl, rfl, (by rw [upd_ne hLl]; exact hL2), hlen1, (by show 0 ≤ sizeLine; decide), fun l' hl' => ?_⟩
        have es : spStep (ls, cur) z = (ls ++ [cur ++ [z]], []) := by unfold spStep; rw [if_pos h1]
        rw [enext, es]
        have nL : l' ≠ L := fun e => by rw [e, upd_same] at hl'; cases hl'
        have nl : l' ≠ l := fun e => by rw [e, upd_ne hLl.symm, upd_same] at hl'; cases hl'
        have nfree : H2 l' = none := by rw [upd_ne nL, upd_ne nl] at hl'; exact hl'
        refine ⟨_, l', as ++ [l], rfl, ?_, ?_, upd_same, ?_, ?_, nL.symm, ?_, ?_⟩
        · exact (Same.old (Same.old s2 hlH) hL).trans (Same.new hl')
        · rw [upd_ne nL.symm, upd_same]; simp
        · refine Rows.snoc (Rows.agree hR fun x hx' => ?_) ?_
          · obtain ⟨u, hu⟩ := hx x hx'
            have := hd x hx'
            rw [upd_ne (fun e => by rw [e, nfree] at hu; cases hu), upd_ne this.1, upd_ne this.2]
          · exact .inl (.inl (by rw [upd_ne nl.symm, upd_ne hLl.symm, upd_same]; simp))
        · exact s2.free nfree
        · intro x hx'
          rcases List.mem_append.mp hx' with h | h
          · refine ⟨(hd x h).1, fun e => ?_⟩
            obtain ⟨u, hu⟩ := hx x h
            rw [e, nfree] at hu; cases hu
          · simp at h; subst h; exact ⟨hLl.symm, nl.symm⟩
        · intro x hx'
          rcases List.mem_append.mp hx' with h | h
          · obtain ⟨u, hu⟩ := hx x h
            have := hd x h
            exact ⟨u, by rw [upd_ne (fun e => by rw [e, nfree] at hu; cases hu), upd_ne this.1, upd_ne this.2]; exact hu⟩
          · simp at h; subst h
            exact ⟨_, by rw [upd_ne nl.symm, upd_ne hLl.symm]; exact upd_same⟩
      · have es : spStep (ls, cur) z = (ls, cur ++ [z]) := by unfold spStep; rw [if_neg h1]
        refine ⟨_, l, as, rfl, Same.old s2 hlH, (by rw [upd_ne hLl]; exact hL2), ?_, ?_, hlH, hLl, hd, fun x hx' => ?_⟩
        · rw [enext, es, upd_same]; simp
        · rw [enext, es]; exact Rows.agree hR fun x hx' => upd_ne (hd x hx').2
        · obtain ⟨u, hu⟩ := hx x hx'
          exact ⟨u, by rw [upd_ne (hd x hx').2]; exact hu⟩
    · rintro σ H2 ⟨v, l, as, rfl, s2, hL2, hl2, hR, hlH, hLl, hd, hx⟩
      have hz1 := sp_sizes t ([], [])
      have e1 : t.take (t.map V.int).length = t := by rw [List.length_map, List.take_length]
      rw [e1] at hl2 hR
      have em : splitM t = spEnd (t.foldl spStep ([], [])) := rfl
      generalize est : t.foldl spStep ([], []) = st at hl2 hR hz1 em
      obtain ⟨ls, cur⟩ := st
      have hz2 : ls.length + cur.length ≤ 0 + 0 + t.length := hz1
      refine ⟨_, rfl, l, _, rfl, .inl (SqL.of hl2), ?_⟩
      rw [List.length_map]
      refine ⟨_, _, rfl, rfl, _, rfl, ifD (fun h1 => ?_) (fun h1 => ?_)⟩
      · have h1' : 0 < cur.length := by
          have : (0 : Int) < (cur.length : Int) := h1
          omega
        have hlen1 : (as.map V.ref).length < sizeLine := by rw [List.length_map, Rows.len hR, hSz]; show ls.length < _; omega
        refine ⟨_, rfl, .inl ⟨rfl, as.map V.ref, SqL.of hL2⟩, _, rfl, L, as.map V.ref, _, rfl, rfl, hL2, hlen1, _, rfl, ?_⟩
        refine k _ L (Same.old s2 hL) ⟨as ++ [l], ?_, ?_⟩
        · exact .inl (.inl (by rw [upd_same]; simp))
        · rw [em]
          unfold spEnd
          rw [if_pos h1']
          refine Rows.snoc (Rows.agree hR fun x hx' => upd_ne (hd x hx').1) ?_
          exact .inl (.inl (by rw [upd_ne hLl.symm]; exact hl2))
      · have h1' : ¬ 0 < cur.length := by
          have : ¬ (0 : Int) < (cur.length : Int) := h1
          omega
        refine ⟨_, rfl, ?_⟩
        refine k _ L s2 ⟨as, SqL.of hL2, ?_⟩
        rw [em]
        unfold spEnd
        rw [if_neg h1']
        exact hR
end
end Lm

set_option Elab.async false
set_option linter.all false
set_option maxRecDepth 100000
set_option maxHeartbeats 4000000
namespace Lm
open PySem L2
section
variable {P : Program} {w : World} {K : PySem.W.Frag} {mg : Str → Option Value} {base : Heap} {A : Adr}
def sp_judge (K : PySem.W.Frag) : Sp := fun vs H Q _ => ∃ (a : Addr) (t : List Int), vs = [.ref a] ∧ IL K H a t ∧ ∀ H' p, Same H H' → IL K H' p (judgeM t) → Q (.ref p) H'
theorem sc_judge : FnScope ["t", "lines", "fault"] ["t"] (defScope s_judge) := ⟨rfl, rfl, rfl, by decide +kernel, rfl, by decide +kernel, by decide +kernel⟩
theorem ok_judge (T : Txt K mg A) : FnOk P w K mg base CX0 5 A.judge A.d_judge ["t"] (sp_judge K) := by
  have G_split_lines : FnOk P w K mg base CX0 1 A.split_lines A.d_split_lines ["t"] (sp_split_lines K) := ok_split_lines T
  have G_table_fault : FnOk P w K mg base CX0 4 A.table_fault A.d_table_fault ["lines"] (sp_table_fault K) := ok_table_fault T
  refine T.F_judge.ok sc_judge (fun vs H Q E h => ?_) (fun cdv B outer s H vs Q E hr h => ?_)
  · obtain ⟨a, t, rfl, _⟩ := h
    rfl
  · obtain ⟨a, t, rfl, ha, k⟩ := h
    refine ⟨_, pss_cons (ps_if (pt_cmpR op_gt (pe_callB call_len_seq (by rfl) T.n_len PySem.boot_len (pa_cons (pv 0) pa_nil)) (pgi T.c_MOST_TABLE_BYTES) (nomark _))
        (pss_one (ps_ret (pe_lst (pa_cons (pgi T.c_TOO_LONG) pa_nil))))
        (pss_nil))
      (pss_cons (ps_set (i := 1) sc_judge.nd rfl (Or.inl rfl) (pe_call G_split_lines (hr.mono (by decide)) rfl T.g_split_lines T.k_split_lines T.b_split_lines .nil pass0 (pa_cons (pv 0) pa_nil)))
      (pss_cons (ps_set (i := 2) sc_judge.nd rfl (Or.inl rfl) (pe_call G_table_fault (hr.mono (by decide)) rfl T.g_table_fault T.k_table_fault T.b_table_fault .nil pass0 (pa_cons (pv 1) pa_nil)))
      (pss_cons (ps_if (pt_cmpR op_gt (pe_callB call_len_seq (by rfl) T.n_len PySem.boot_len (pa_cons (pv 2) pa_nil)) (pe_int) (nomark _))
        (pss_one (ps_ret (pe_op op_cat (pe_lst (pa_cons (pgi T.c_NO_TABLE) pa_nil)) (pv 2))))
        (pss_nil))
      (pss_one (ps_ret (pe_lst (pa_cons (pe_callB call_len_seq (by rfl) T.n_len PySem.boot_len (pa_cons (pv 1) pa_nil)) pa_nil))))))), ?_⟩
    have hSz : sizeLine = 16777216 := rfl
    have hl : (t.map V.int).length = t.length := List.length_map ..
    refine ⟨_, rfl, a, _, rfl, .inl ha, ?_⟩
    rw [hl]
    refine ⟨_, _, rfl, rfl, _, rfl, ifD (fun h1 => ?_) (fun h1 => ?_)⟩
    · refine ⟨(by show 1 ≤ sizeLine; decide), fun p hp => ?_⟩
      have e : judgeM t = [-2] := by
        unfold judgeM
        rw [if_pos (by omega)]
      refine k _ p (Same.new hp) ?_
      rw [e]
      exact .inl (.inl upd_same)
    · have h1' : ¬ 65536 < t.length := by omega
      have hsl := splitM_len t
      refine ⟨_, rfl, a, t, rfl, ha, by omega, fun H1 L s1 hL => ?_⟩
      refine ⟨_, rfl, L, _, rfl, hL, by omega, splitM_ne t, fun H2 F s2 hF => ?_⟩
      have hfl := tabFault_len (splitM t)
      refine ⟨_, rfl, F, _, rfl, .inl (SqL.of hF), ?_⟩
      rw [List.length_map]
      refine ⟨_, _, rfl, rfl, _, rfl, ifD (fun h2 => ?_) (fun h2 => ?_)⟩
      · have h2' : 0 < (tabFault (splitM t)).length := by
          have : (0 : Int) < ((tabFault (splitM t)).length : Int) := h2
          omega
        have e : judgeM t = -6 :: tabFault (splitM t) := by
          unfold judgeM
          rw [if_neg h1', if_pos h2']
        refine ⟨(by show 1 ≤ sizeLine; decide), fun p hp => ?_⟩
        refine ⟨_, rfl, p, F, _, _, rfl, rfl, upd_same, (by rw [upd_ne (ne_of_none hF hp)]; exact hF), ?_, fun q hq => ?_⟩
        · rw [hSz, List.length_map]
          show 1 + _ ≤ _
          omega
        · refine k _ q ((s1.trans s2).trans ((Same.new hp).trans (Same.new hq))) ?_
          rw [e]
          exact .inl (.inl upd_same)
      · have h2' : ¬ 0 < (tabFault (splitM t)).length := by
          have : ¬ (0 : Int) < ((tabFault (splitM t)).length : Int) := h2
          omega
        have e : judgeM t = [((splitM t).length : Int)] := by
          unfold judgeM
          rw [if_neg h1', if_neg h2']
        obtain ⟨as, hs, hR⟩ := hL.same s2
        refine ⟨_, rfl, L, _, rfl, .inl hs, (by show 1 ≤ sizeLine; decide), fun p hp => ?_⟩
        refine k _ p ((s1.trans s2).trans (Same.new hp)) ?_
        rw [e]
        refine .inl (.inl ?_)
        rw [upd_same, List.length_map, Rows.len hR]
        rfl
end
end Lm

set_option Elab.async false
set_option linter.all false
set_option maxRecDepth 100000
set_option maxHeartbeats 4000000
namespace Lm
open PySem L2
theorem judge_spec (as : List PySem.W.WData) (hpre : PySem.Challenge.rw_lampspeech_s01_judge.pre as = true) : ∃ (args : List Sq.Arg) (out : List Int), as = args.map Sq.Arg.w ∧ (∀ a ∈ args, a.fits) ∧ PySem.Challenge.rw_lampspeech_s01_judge.post as (.list (out.map PySem.W.WData.int)) = true ∧
      ∀ (K : PySem.W.Frag) (H : Hp) (vs : List V), Only H → Paired (Sq.ArgAt K H) args vs → sp_judge K vs H (fun v H' => ∃ p, v = .ref p ∧ SqL K H' p (out.map V.int)) fun _ _ _ => False := by
  have said : PySem.Challenge.rw_lampspeech_s01_judge.wellSaid = true := by decide +kernel
  obtain ⟨a, hw, _, rfl⟩ := (PySem.W.OpenSpec.pre_iff said as).mp hpre
  obtain ⟨t, ⟨⟩⟩ := a
  have hw' : (PySem.W.Codec.inLen 0 70000 t && t.all (PySem.W.Codec.inInt 0 255)) = true := by
    have := hw
    exact (Bool.and_eq_true_iff.mp this).1
  obtain ⟨h1, h2⟩ := Bool.and_eq_true_iff.mp hw'
  have hlen : t.length ≤ 70000 := by
    have : (decide (0 ≤ t.length) && decide (t.length ≤ 70000)) = true := h1
    simpa using this
  have hb : ∀ x ∈ t, 0 ≤ x ∧ x ≤ 255 := fun x hx => by
    have := List.all_eq_true.mp h2 x hx
    have q : (decide ((0 : Int) ≤ x) && decide (x ≤ 255)) = true := this
    simpa using q
  refine ⟨[.lst t], PyWqbacy.judge t, rfl, ?_, ?_, ?_⟩
  · intro a ha
    simp at ha
    subst ha
    show t.length ≤ sizeLine
    have : sizeLine = 16777216 := rfl
    omega
  · exact (PySem.W.OpenSpec.post_iff said hw _ []).mpr rfl
  · intro K H vs hO hp
    cases hp with
    | cons h1 h2 =>
      cases h2
      cases h1 with
      | lst hS =>
        refine ⟨_, t, rfl, hS, fun H' p s hp => ⟨p, rfl, ?_⟩⟩
        rw [← judge_eq t hb]
        exact hp
end Lm
open PySem PySem.W
set_option maxRecDepth 100000 in
set_option maxHeartbeats 0 in
theorem PySem.Challenge.cw_lampspeech_s01_judge_holds : PySem.Challenge.rw_lampspeech_s01_judge.Holds := by
  w_on; k_headS; (case hw => exact ⟨[.list []], by decide +kernel, by decide +kernel⟩)
  k_fillS
  refine Sq.spec_walk (k := 5) (ps := ["t"]) (sp := Lm.sp_judge) rfl ⟨rfl, by decide, by decide⟩ (fun w h Y => PySem.W.kIn_of Y) ?F Lm.judge_spec
  case F =>
    intro w mg fa h KX G hmg
    have n_len : mg "len" = none := by
      refine' PySem.W.mg_none_of KX G ?a1
      (case a1 => k_is)
    have n_range : mg "range" = none := by
      refine' PySem.W.mg_none_of KX G ?a2
      (case a2 => k_is)
    have c_MOST_TABLE_BYTES : ∃ t, mg "MOST_TABLE_BYTES" = some (.int (65536) t) := by
      refine' Lm.int_mk KX G ?a3
      (case a3 => k_is)
    have c_LINE_END : ∃ t, mg "LINE_END" = some (.int (10) t) := by
      refine' Lm.int_mk KX G ?a4
      (case a4 => k_is)
    have c_NOT_A_LINE : ∃ t, mg "NOT_A_LINE" = some (.int (1) t) := by
      refine' Lm.int_mk KX G ?a5
      (case a5 => k_is)
    have c_NO_FAULT : ∃ t, mg "NO_FAULT" = some (.int (0) t) := by
      refine' Lm.int_mk KX G ?a6
      (case a6 => k_is)
    have c_LETTER_NOT_ABOVE : ∃ t, mg "LETTER_NOT_ABOVE" = some (.int (2) t) := by
      refine' Lm.int_mk KX G ?a7
      (case a7 => k_is)
    have c_PATTERN_STANDS_BEFORE : ∃ t, mg "PATTERN_STANDS_BEFORE" = some (.int (3) t) := by
      refine' Lm.int_mk KX G ?a8
      (case a8 => k_is)
    have c_MOST_LETTERS : ∃ t, mg "MOST_LETTERS" = some (.int (64) t) := by
      refine' Lm.int_mk KX G ?a9
      (case a9 => k_is)
    have c_MOST_SIGNS : ∃ t, mg "MOST_SIGNS" = some (.int (8) t) := by
      refine' Lm.int_mk KX G ?a10
      (case a10 => k_is)
    have c_SHORT : ∃ t, mg "SHORT" = some (.int (46) t) := by
      refine' Lm.int_mk KX G ?a11
      (case a11 => k_is)
    have c_LONG : ∃ t, mg "LONG" = some (.int (45) t) := by
      refine' Lm.int_mk KX G ?a12
      (case a12 => k_is)
    have c_LEAST_LETTER : ∃ t, mg "LEAST_LETTER" = some (.int (33) t) := by
      refine' Lm.int_mk KX G ?a13
      (case a13 => k_is)
    have c_GREATEST_LETTER : ∃ t, mg "GREATEST_LETTER" = some (.int (126) t) := by
      refine' Lm.int_mk KX G ?a14
      (case a14 => k_is)
    have c_BLANK : ∃ t, mg "BLANK" = some (.int (32) t) := by
      refine' Lm.int_mk KX G ?a15
      (case a15 => k_is)
    have c_TOO_LONG : ∃ t, mg "TOO_LONG" = some (.int (-2) t) := by
      refine' Lm.int_mk KX G ?a16
      (case a16 => k_is)
    have c_NO_TABLE : ∃ t, mg "NO_TABLE" = some (.int (-6) t) := by
      refine' Lm.int_mk KX G ?a17
      (case a17 => k_is)
    have D_split_lines : ∃ f fd, Lm.DefAt (L2.KOf KX) mg "split_lines" Lm.s_split_lines f fd := by
      dsimp only [L2.KOf]
      refine' Lm.def_mk KX G ?a18 ?l18 ?c18 ?k18
      (case a18 => k_is)
      (case l18 => k_is)
      (case c18 => k_is)
      (case k18 => k_is)
    have D_stands_before : ∃ f fd, Lm.DefAt (L2.KOf KX) mg "stands_before" Lm.s_stands_before f fd := by
      dsimp only [L2.KOf]
      refine' Lm.def_mk KX G ?a19 ?l19 ?c19 ?k19
      (case a19 => k_is)
      (case l19 => k_is)
      (case c19 => k_is)
      (case k19 => k_is)
    have D_is_pattern : ∃ f fd, Lm.DefAt (L2.KOf KX) mg "is_pattern" Lm.s_is_pattern f fd := by
      dsimp only [L2.KOf]
      refine' Lm.def_mk KX G ?a20 ?l20 ?c20 ?k20
      (case a20 => k_is)
      (case l20 => k_is)
      (case c20 => k_is)
      (case k20 => k_is)
    have D_is_table_line : ∃ f fd, Lm.DefAt (L2.KOf KX) mg "is_table_line" Lm.s_is_table_line f fd := by
      dsimp only [L2.KOf]
      refine' Lm.def_mk KX G ?a21 ?l21 ?c21 ?k21
      (case a21 => k_is)
      (case l21 => k_is)
      (case c21 => k_is)
      (case k21 => k_is)
    have D_line_fault : ∃ f fd, Lm.DefAt (L2.KOf KX) mg "line_fault" Lm.s_line_fault f fd := by
      dsimp only [L2.KOf]
      refine' Lm.def_mk KX G ?a22 ?l22 ?c22 ?k22
      (case a22 => k_is)
      (case l22 => k_is)
      (case c22 => k_is)
      (case k22 => k_is)
    have D_table_fault : ∃ f fd, Lm.DefAt (L2.KOf KX) mg "table_fault" Lm.s_table_fault f fd := by
      dsimp only [L2.KOf]
      refine' Lm.def_mk KX G ?a23 ?l23 ?c23 ?k23
      (case a23 => k_is)
      (case l23 => k_is)
      (case c23 => k_is)
      (case k23 => k_is)
    have D_judge : ∃ f fd, Lm.DefAt (L2.KOf KX) mg "judge" Lm.s_judge f fd := by
      dsimp only [L2.KOf]
      refine' Lm.def_mk KX G ?a24 ?l24 ?c24 ?k24
      (case a24 => k_is)
      (case l24 => k_is)
      (case c24 => k_is)
      (case k24 => k_is)
    obtain ⟨f_split_lines, d_split_lines, D_split_lines⟩ := D_split_lines
    obtain ⟨f_stands_before, d_stands_before, D_stands_before⟩ := D_stands_before
    obtain ⟨f_is_pattern, d_is_pattern, D_is_pattern⟩ := D_is_pattern
    obtain ⟨f_is_table_line, d_is_table_line, D_is_table_line⟩ := D_is_table_line
    obtain ⟨f_line_fault, d_line_fault, D_line_fault⟩ := D_line_fault
    obtain ⟨f_table_fault, d_table_fault, D_table_fault⟩ := D_table_fault
    obtain ⟨f_judge, d_judge, D_judge⟩ := D_judge
    have e0 := hmg.symm.trans D_judge.g
    cases e0
    have T : Lm.Txt (L2.KOf KX) mg ⟨f_split_lines, f_stands_before, f_is_pattern, f_is_table_line, f_line_fault, f_table_fault, fa, d_split_lines, d_stands_before, d_is_pattern, d_is_table_line, d_line_fault, d_table_fault, d_judge⟩ := ⟨n_len, n_range, c_MOST_TABLE_BYTES, c_LINE_END, c_NOT_A_LINE, c_NO_FAULT, c_LETTER_NOT_ABOVE, c_PATTERN_STANDS_BEFORE, c_MOST_LETTERS, c_MOST_SIGNS, c_SHORT, c_LONG, c_LEAST_LETTER, c_GREATEST_LETTER, c_BLANK, c_TOO_LONG, c_NO_TABLE, D_split_lines.F, D_split_lines.g, D_split_lines.k, (D_split_lines.F.binds (ps := ["t"]) fun _ _ _ _ _ _ us hl => match us, hl with | [_], _ => rfl), D_stands_before.F, D_stands_before.g, D_stands_before.k, (D_stands_before.F.binds (ps := ["lines", "number"]) fun _ _ _ _ _ _ us hl => match us, hl with | [_, _], _ => rfl), D_is_pattern.F, D_is_pattern.g, D_is_pattern.k, (D_is_pattern.F.binds (ps := ["signs"]) fun _ _ _ _ _ _ us hl => match us, hl with | [_], _ => rfl), D_is_table_line.F, D_is_table_line.g, D_is_table_line.k, (D_is_table_line.F.binds (ps := ["line"]) fun _ _ _ _ _ _ us hl => match us, hl with | [_], _ => rfl), D_line_fault.F, D_line_fault.g, D_line_fault.k, (D_line_fault.F.binds (ps := ["lines", "number"]) fun _ _ _ _ _ _ us hl => match us, hl with | [_, _], _ => rfl), D_table_fault.F, D_table_fault.g, D_table_fault.k, (D_table_fault.F.binds (ps := ["lines"]) fun _ _ _ _ _ _ us hl => match us, hl with | [_], _ => rfl), D_judge.F, D_judge.g, D_judge.k, (D_judge.F.binds (ps := ["t"]) fun _ _ _ _ _ _ us hl => match us, hl with | [_], _ => rfl)⟩
    exact ⟨d_judge, Lm.Fun.bindsTo (ps := ["t"]) D_judge.F (fun _ _ _ _ _ _ us hl => match us, hl with | [_], _ => rfl), fun base _ _ => Lm.ok_judge T⟩
#print axioms PySem.Challenge.cw_lampspeech_s01_judge_holds

