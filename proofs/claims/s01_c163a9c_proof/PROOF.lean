import PyProof.Rows.All
import Wide.All
import OpenK.AllK
import Wide.FinOn
import PyProof.EqAt
import PyProof.EqKinds
import PyProof.TupleCall
import Open.SpecLaws
import KE.OsHead
import KE.OsGo
import PySem.Challenge.RW_shiptanks_s01_answers
section
set_option Elab.async false
set_option linter.all false
set_option maxRecDepth 100000
/-! THE HAND LAYER, for ints, bools, texts, own classes, LISTS and tuples (index, slices, in, append, pop ..), calls, loops. Paste it whole ahead of your own text; what your proof does not reach may be deleted. -/
namespace L2
open PySem PySem.Spec PyProof.Rows

/-- a key: an int or a str -/
abbrev Key := Sum Int Str
def keyIs : Key → Value → Bool
  | .inl k, v => Value.isInt k v
  | .inr x, v => Value.isStrOf x v
def keyH (w : World) : Key → Int
  | .inl k => hashInt k
  | .inr x => hashStr w x
theorem keyIs_shape : ∀ {k : Key} {v : Value}, keyIs k v = true → (∃ i t, k = Sum.inl i ∧ v = Value.int i t) ∨ (∃ x t, k = Sum.inr x ∧ v = Value.str x t)
  | .inl i, v, h => by
    obtain ⟨t, e⟩ := Value.isInt_shape (k := i) (v := v) h
    exact .inl ⟨i, t, rfl, e⟩
  | .inr x, v, h => by
    obtain ⟨t, e⟩ := Value.isStrOf_shape (x := x) (v := v) h
    exact .inr ⟨x, t, rfl, e⟩
theorem key_ll (a b : Int) : decide ((Sum.inl a : Key) = Sum.inl b) = (a == b) := by
  by_cases e : a = b
  · subst e; simp
  · have h : ¬ (Sum.inl a : Key) = Sum.inl b := fun q => e (Sum.inl.inj q)
    rw [decide_eq_false h]
    exact (beq_eq_false_iff_ne.mpr e).symm
theorem key_rr (a b : Str) : decide ((Sum.inr a : Key) = Sum.inr b) = decide (a = b) := by
  by_cases e : a = b
  · subst e; simp
  · have h : ¬ (Sum.inr a : Key) = Sum.inr b := fun q => e (Sum.inr.inj q)
    rw [decide_eq_false h, decide_eq_false e]
theorem key_lr (a : Int) (b : Str) : decide ((Sum.inl a : Key) = Sum.inr b) = false := decide_eq_false (fun q => nomatch q)
theorem key_rl (a : Str) (b : Int) : decide ((Sum.inr a : Key) = Sum.inl b) = false := decide_eq_false (fun q => nomatch q)

def mixKind (prog : Program) (w : World) : PySem.KeyKind prog w Key where
  is := keyIs
  hash := keyH w
  inj := fun v a b ha hb => by
    rcases keyIs_shape ha with ⟨i, t, rfl, rfl⟩ | ⟨x, t, rfl, rfl⟩
    · rcases keyIs_shape hb with ⟨j, u, rfl, e⟩ | ⟨y, u, rfl, e⟩
      · injection e with e1 _; rw [e1]
      · exact nomatch e
    · rcases keyIs_shape hb with ⟨j, u, rfl, e⟩ | ⟨y, u, rfl, e⟩
      · exact nomatch e
      · injection e with e1 _; rw [e1]
  byValue := fun k v h => by
    rcases keyIs_shape h with ⟨i, t, rfl, rfl⟩ | ⟨x, t, rfl, rfl⟩ <;> rfl
  pyHash := fun hv h => by
    rcases keyIs_shape hv with ⟨i, t, rfl, rfl⟩ | ⟨x, t, rfl, rfl⟩
    · exact wpAny_pyHash_int h
    · exact wpAny_pyHash_str h
  eqBool := fun hu hv h => by
    rcases keyIs_shape hu with ⟨i, t, rfl, rfl⟩ | ⟨x, t, rfl, rfl⟩
    · rcases keyIs_shape hv with ⟨j, u, rfl, rfl⟩ | ⟨y, u, rfl, rfl⟩
      · rw [key_ll] at h; exact wpAny_eqBool_int h
      · rw [key_lr] at h; exact SeqAt.EqAt.int_str i t y u _ _ _ _ h
    · rcases keyIs_shape hv with ⟨j, u, rfl, rfl⟩ | ⟨y, u, rfl, rfl⟩
      · rw [key_rl] at h; exact SeqAt.EqAt.str_int x t j u _ _ _ _ h
      · rw [key_rr] at h; exact wpAny_eqBool_str h
  «strs» := fun k x t v h => by
    rcases keyIs_shape h with ⟨i, u, rfl, e⟩ | ⟨y, u, rfl, e⟩
    · exact nomatch e
    · injection e with e1 _
      subst e1
      cases v <;> rfl

end L2

namespace L2
open PySem PySem.Spec PyProof.Rows

/-- a value, without the heap -/
inductive V where
  | non | bl (b : Bool) | int (i : Int) | str (x : Str) | byt (b : Array UInt8) | flt (b : UInt64) | ref (a : Addr) | ty (n : String)
  deriving DecidableEq

def RelV : V → Value → Prop
  | .non, u => u = Value.none
  | .bl b, u => u = Value.bool b
  | .int i, u => ∃ t, u = Value.int i t
  | .str x, u => ∃ t, u = Value.str x t
  | .byt b, u => ∃ t, u = Value.bytes b t
  | .flt b, u => ∃ t, u = Value.float b t
  | .ref a, u => u = Value.ref a
  | .ty n, u => u = Value.type n

abbrev Vals : List V → List Value → Prop := Paired RelV
theorem Vals.length {xs : List V} {us : List Value} (r : Vals xs us) : xs.length = us.length := Paired.length r
theorem Vals.get : ∀ {xs : List V} {us : List Value} {i : Nat} {x : V}, Vals xs us → xs[i]? = some x → ∃ u, us[i]? = some u ∧ RelV x u
  | _, _, _, _, .nil, e => by simp at e
  | _, _, 0, _, .cons r _, e => by simp at e; subst e; exact ⟨_, rfl, r⟩
  | _, _, i + 1, x, .cons _ t, e => by
    obtain ⟨u, h1, h2⟩ := Vals.get (i := i) (x := x) t (by simpa using e)
    exact ⟨u, by simpa using h1, h2⟩
theorem Vals.append : ∀ {xs ys : List V} {us ws : List Value}, Vals xs us → Vals ys ws → Vals (xs ++ ys) (us ++ ws)
  | _, _, _, _, .nil, s => s
  | _, _, _, _, .cons r t, s => .cons r (Vals.append t s)
theorem Vals.take : ∀ {xs : List V} {us : List Value} (n : Nat), Vals xs us → Vals (xs.take n) (us.take n)
  | _, _, 0, _ => .nil
  | _, _, _ + 1, .nil => .nil
  | _, _, n + 1, .cons r t => .cons r (Vals.take n t)
theorem Vals.drop : ∀ {xs : List V} {us : List Value} (n : Nat), Vals xs us → Vals (xs.drop n) (us.drop n)
  | _, _, 0, r => r
  | _, _, _ + 1, .nil => .nil
  | _, _, n + 1, .cons _ t => Vals.drop n t

def RelO : Option V → Option Value → Prop
  | some v, some u => RelV v u
  | none, none => True
  | _, _ => False
def KV {κ : Type} : List (κ × V) → List (κ × Value) → Prop := Paired fun (p : κ × V) (q : κ × Value) => p.1 = q.1 ∧ RelV p.2 q.2

/-- a key of a dict (00_mix): an int or a text -/
def kV : Key → V
  | .inl i => .int i
  | .inr x => .str x

/-- what stands at a tracked address -/
inductive HO where
  /-- a list -/
  | lst (xs : List V)
  /-- a tuple (never changes) -/
  | tup (xs : List V)
  /-- a dict whose keys are ints and texts; one whose keys are tuples of ints and texts (the empty one is both) -/
  | dK (kvs : List (Key × V)) | dT (kvs : List (List Key × V))
  /-- a set of ints: its members, its size -/
  | set (S : Int → Bool) (n : Nat)
  /-- an instance of the class at C, its dict at dx, its attributes -/
  | ins (C dx : Addr) (fs : List (Str × V))
  /-- the dict of the instance at x -/
  | own (x : Addr)
  /-- the dict of an exception -/
  | xd (fs : List (Str × V))
  /-- a bound method, f of x -/
  | met (f x : Addr)
  /-- a range object lo, lo + 1, .. below hi -/
  | rng (lo hi : Int)
  /-- a thing that is known to the object (the script; a dict while a loop walks it): read, never written while it is so -/
  | frz (o : Obj) (u : HO)
  /-- a code object's table -/
  | tbl (ps : Array Value)
  /-- any other thing, by what is true of its one object (a def of one's own: SetO a S n := HO.ext fun h => ..) -/
  | ext (φ : Heap → Prop)

abbrev Hp := Addr → Option HO
def upd (H : Hp) (a : Addr) (o : HO) : Hp := fun b => if b = a then some o else H b
theorem upd_same {H : Hp} {a : Addr} {o : HO} : upd H a o a = some o := by unfold upd; rw [if_pos rfl]
theorem upd_ne {H : Hp} {a b : Addr} {o : HO} (h : b ≠ a) : upd H a o b = H b := by unfold upd; rw [if_neg h]
theorem upd_upd {H : Hp} {a : Addr} {o u : HO} : upd (upd H a o) a u = upd H a u := by
  funext b; unfold upd; split <;> rfl
/-- two objects of different content stand apart -/
theorem ne_of {H : Hp} {a b : Addr} {o u : HO} (h : H a = some o) (h' : H b = some u) (d : o ≠ u) : a ≠ b := by
  intro e; subst e; rw [h] at h'; exact d (Option.some.inj h')
theorem ne_of_none {H : Hp} {a b : Addr} {o : HO} (h : H a = some o) (h' : H b = none) : a ≠ b := by
  intro e; subst e; rw [h] at h'; cases h'

section
variable (P : Program) (w : World)
def ObjOk (H : Hp) (h : Heap) (a : Addr) : HO → Prop
  | .lst xs => xs.length ≤ sizeLine ∧ ∃ (its : List Value) (n : Nat), Vals xs its ∧ h.get? a = some { cls := .type "list", data := .seq its.toArray n }
  | .tup xs => xs.length ≤ sizeLine ∧ ∃ its : List Value, Vals xs its ∧ IsTup h a its.toArray
  | .dK kvs => kvs.length ≤ sizeLine ∧ (a == sysModules) = false ∧ ∃ vs, KV kvs vs ∧ h.DictOf (mixKind P w) a vs
  | .dT kvs => kvs.length ≤ sizeLine ∧ (a == sysModules) = false ∧ ∃ xs : List (List Key × Addr × Value),
      Paired (fun (p : List Key × V) (q : List Key × Addr × Value) => p.1 = q.1 ∧ H q.2.1 = some (.tup (p.1.map kV)) ∧ RelV p.2 q.2.2) kvs xs ∧
      ∃ o es ep, h.get? a = some o ∧ o.ExactDict ∧ o.data = .dict es ep ∧ es.toList = xs.map (entryOfKey (tupleKind (mixKind P w))) ∧ (xs.map (·.1)).Nodup
  | .set S n => h.SetOf (intKind P w) a S n
  | .ins C dx fs => H dx = some (.own a) ∧ fs.length ≤ 1000 ∧ dx ≠ a ∧ h.get? a = some (PySem.W.instObj C dx) ∧
      ∃ mA, h.Ns1 dx mA ∧ (∀ f, RelO (fs.lookup f) (mA f)) ∧ PySem.Within mA (fs.map (·.1))
  | .own _ => ∃ o, h.get? a = some o
  | .xd fs => ∃ mA, h.Ns1 a mA ∧ ∀ f, RelO (fs.lookup f) (mA f)
  | .rng lo hi => ∃ t u v, h.get? a = some { cls := .type "range", data := .fields #[.int lo t, .int hi u, .int 1 v] }
  | .frz o u => h.get? a = some o ∧ ObjOk H h a u
  | .tbl ps => h.get? a = some { cls := .none, data := .fields ps }
  | .met f x => h.get? a = some (PySem.W.methodObj (.ref f) (.ref x))
  | .ext φ => φ h ∧ (∃ o, h.get? a = some o) ∧ ∀ h1 h2 : Heap, φ h1 → (∀ o, h1.get? a = some o → h2.get? a = some o) → φ h2
/-- the abstract heap is held -/
def HOk (H : Hp) (h : Heap) : Prop := ∀ a o, H a = some o → ObjOk P w H h a o
end

section
variable {P : Program} {w : World} {H H' : Hp} {h h' : Heap} {a : Addr} {o : HO}
theorem ObjOk.lt (x : ObjOk P w H h a o) : a < h.objs.size := by
  cases o with
  | lst xs => obtain ⟨_, _, _, _, e⟩ := x; exact Heap.lt_size e
  | tup xs => obtain ⟨_, _, _, p⟩ := x; exact p.lt
  | dK kvs => obtain ⟨_, _, _, _, o, _, _, e, _⟩ := x; exact Heap.lt_size e
  | dT kvs => obtain ⟨_, _, _, _, o, _, _, e, _⟩ := x; exact Heap.lt_size e
  | set S n => obtain ⟨o, _, _, _, e, _⟩ := x; exact Heap.lt_size e
  | ins C dx fs => obtain ⟨_, _, _, e, _⟩ := x; exact Heap.lt_size e
  | own y => obtain ⟨_, e⟩ := x; exact Heap.lt_size e
  | xd fs => obtain ⟨_, ⟨_, _, _, e, _⟩, _⟩ := x; exact Heap.lt_size e
  | rng lo hi => obtain ⟨_, _, _, e⟩ := x; exact Heap.lt_size e
  | frz ob u => obtain ⟨e, _⟩ := x; exact Heap.lt_size e
  | tbl ps => exact Heap.lt_size (show h.get? a = some _ from x)
  | met f y => exact Heap.lt_size (show h.get? a = some _ from x)
  | ext φ => obtain ⟨_, ⟨_, e⟩, _⟩ := x; exact Heap.lt_size e
theorem Paired.mapP {α β : Type} {F G : α → β → Prop} : ∀ {l₁ : List α} {l₂ : List β}, Paired F l₁ l₂ → (∀ a b, F a b → G a b) → Paired G l₁ l₂
  | _, _, .nil, _ => .nil
  | _, _, .cons r t, f => .cons (f _ _ r) (Paired.mapP t f)
/-- what an object's description leans on: its own object, its own dict, the tuples -/
theorem ObjOk.stay (x : ObjOk P w H h a o) (k : ∀ b u, (b = a ∨ H b = some (.own a)) → h.get? b = some u → h'.get? b = some u)
    (ho : ∀ b, H b = some (.own a) → H' b = some (.own a)) (ht : ∀ b xs, H b = some (.tup xs) → H' b = some (.tup xs)) : ObjOk P w H' h' a o := by
  induction o with
  | lst xs => obtain ⟨z, its, n, r, e⟩ := x; exact ⟨z, its, n, r, k _ _ (.inl rfl) e⟩
  | tup xs => obtain ⟨z, its, r, ob, e, c⟩ := x; exact ⟨z, its, r, ob, k _ _ (.inl rfl) e, c⟩
  | dK kvs => obtain ⟨z, y, vs, r, ob, es, ep, e, c⟩ := x; exact ⟨z, y, vs, r, ob, es, ep, k _ _ (.inl rfl) e, c⟩
  | dT kvs =>
    obtain ⟨z, y, xs, r, ob, es, ep, e, c⟩ := x
    exact ⟨z, y, xs, Paired.mapP r fun p q z => ⟨z.1, ht _ _ z.2.1, z.2.2⟩, ob, es, ep, k _ _ (.inl rfl) e, c⟩
  | set S n => obtain ⟨ob, es, ep, t, e, c⟩ := x; exact ⟨ob, es, ep, t, k _ _ (.inl rfl) e, c⟩
  | ins C dx fs =>
    obtain ⟨d, z, ne, e, mA, ⟨od, es, ep, e2, c⟩, r⟩ := x
    exact ⟨ho _ d, z, ne, k _ _ (.inl rfl) e, mA, ⟨od, es, ep, k _ _ (.inr d) e2, c⟩, r⟩
  | own y => obtain ⟨ob, e⟩ := x; exact ⟨ob, k _ _ (.inl rfl) e⟩
  | xd fs => obtain ⟨mA, ⟨od, es, ep, e, c⟩, r⟩ := x; exact ⟨mA, ⟨od, es, ep, k _ _ (.inl rfl) e, c⟩, r⟩
  | rng lo hi => obtain ⟨t, u, v, e⟩ := x; exact ⟨t, u, v, k _ _ (.inl rfl) e⟩
  | frz ob u ih => obtain ⟨e, q⟩ := x; exact ⟨k _ _ (.inl rfl) e, ih q⟩
  | tbl ps =>
    have e : h.get? a = some { cls := .none, data := .fields ps } := x
    show h'.get? a = some { cls := .none, data := .fields ps }
    exact k a _ (.inl rfl) e
  | met f y =>
    have e : h.get? a = some (PySem.W.methodObj (.ref f) (.ref y)) := x
    show h'.get? a = some (PySem.W.methodObj (.ref f) (.ref y))
    exact k a _ (.inl rfl) e
  | ext φ => obtain ⟨p, ⟨o, e⟩, st⟩ := x; exact ⟨st _ _ p fun o q => k _ _ (.inl rfl) q, ⟨o, k _ _ (.inl rfl) e⟩, st⟩
theorem HOk.lt (x : HOk P w H h) (e : H a = some o) : a < h.objs.size := (x a o e).lt
theorem HOk.fresh (x : HOk P w H h) (e : h.objs.size ≤ a) : H a = none := by
  cases q : H a with
  | none => rfl
  | some u => exact absurd (Nat.lt_of_lt_of_le (x.lt q) e) (Nat.lt_irrefl _)
/-- every object of the heap is kept -/
theorem HOk.kept (x : HOk P w H h) (k : ∀ b u, h.get? b = some u → h'.get? b = some u) : HOk P w H h' := fun a o e =>
  (x a o e).stay (fun b u _ q => k b u q) (fun _ q => q) fun _ _ q => q
/-- a new object is laid and tracked -/
theorem HOk.laid (x : HOk P w H h) (k : ∀ b u, h.get? b = some u → h'.get? b = some u) (hp : h.objs.size ≤ a) (new : ObjOk P w (upd H a o) h' a o) : HOk P w (upd H a o) h' := fun b u e => by
  have hn := x.fresh hp
  by_cases hb : b = a
  · subst hb; rw [upd_same] at e; cases e; exact new
  · rw [upd_ne hb] at e
    exact (x b u e).stay (fun c v _ q => k c v q) (fun c q => by rw [upd_ne (ne_of_none q hn)]; exact q) fun c xs q => by rw [upd_ne (ne_of_none q hn)]; exact q
end

/-- what may be read as u: it is u, or a known u -/
def Rd (H : Hp) (a : Addr) (u : HO) : Prop := H a = some u ∨ ∃ o, H a = some (.frz o u)
theorem Rd.ok {P : Program} {w : World} {H : Hp} {h : Heap} {a : Addr} {u : HO} (r : Rd H a u) (x : HOk P w H h) : ObjOk P w H h a u := by
  rcases r with r | ⟨o, r⟩
  · exact x a u r
  · obtain ⟨_, q⟩ := x a _ r
    exact q
/-- what may be written -/
def Mut : Option HO → Prop
  | some (.lst _) => True
  | some (.dK _) => True
  | some (.dT _) => True
  | some (.set _ _) => True
  | some (.ins _ _ _) => True
  | some (.ext _) => True
  | _ => False
section
variable {P : Program} {w : World} {H : Hp} {h h' : Heap} {x e : Addr} {o' : HO}
/-- the object at e is changed: x itself, or the dict of the instance x -/
theorem HOk.write (ok : HOk P w H h) (mu : Mut (H x)) (he : e = x ∨ H e = some (.own x)) (k : ∀ b u, b ≠ e → h.get? b = some u → h'.get? b = some u) (heo : ∃ u, h'.get? e = some u)
    (new : ObjOk P w (upd H x o') h' x o') : HOk P w (upd H x o') h' := fun b u q => by
  have nown : ∀ c y, H c = some (.own y) → c ≠ x := fun c y r z => by subst z; rw [r] at mu; exact mu
  have ntup : ∀ c xs, H c = some (.tup xs) → c ≠ x := fun c xs r z => by subst z; rw [r] at mu; exact mu
  by_cases hb : b = x
  · subst hb; rw [upd_same] at q; cases q; exact new
  · rw [upd_ne hb] at q
    by_cases hbe : b = e
    · have q' : H b = some (.own x) := by
        rcases he with z | z
        · exact absurd (hbe.trans z) hb
        · rw [hbe]; exact z
      rw [q] at q'; cases q'
      obtain ⟨v, hv⟩ := heo
      exact ⟨v, by rw [hbe]; exact hv⟩
    · refine (ok b u q).stay (fun c v hc r => k c v ?_ r) (fun c r => by rw [upd_ne (nown c b r)]; exact r) fun c xs r => by rw [upd_ne (ntup c xs r)]; exact r
      rcases hc with rfl | hc
      · exact hbe
      · rintro rfl
        rcases he with z | z
        · exact nown c b hc z
        · rw [hc] at z; cases z; exact hb rfl
end

/-! ### kept unless tracked; of the frames at fs (the callers') the slots may change (an exception that passes writes there); of the records at ex (iterators) nothing is said -/
structure Un (fs ex : List Addr) (H H' : Hp) (h h' : Heap) : Prop where
  keep : ∀ b o, h.get? b = some o → H b = none → b ∉ fs → b ∉ ex → h'.get? b = some o
  slot : ∀ b o, h.get? b = some o → H b = none → b ∈ fs → b ∉ ex → ∃ sl, h'.get? b = some { o with slots := sl }
  free : ∀ b o, h.get? b = some o → H b = none → b ∉ ex → H' b = none
  there : ∀ b o, h.get? b = some o → b ∉ ex → ∃ o', h'.get? b = some o'
  tups : ∀ b xs, H b = some (.tup xs) → H' b = some (.tup xs)
  frzs : ∀ b o u, H b = some (.frz o u) → H' b = some (.frz o u)
  tbls : ∀ b ps, H b = some (.tbl ps) → ∃ more, H' b = some (.tbl (ps ++ more))
section
variable {fs fs' ex ex' : List Addr} {H H1 H2 : Hp} {h h1 h2 h' : Heap} {a x e : Addr} {o : HO}
theorem Un.any (u : Un fs ex H H1 h h1) {b : Addr} {ob : Obj} (q : h.get? b = some ob) (n : H b = none) (hx : b ∉ ex) : ∃ sl, h1.get? b = some { ob with slots := sl } := by
  by_cases hb : b ∈ fs
  · exact u.slot b ob q n hb hx
  · exact ⟨ob.slots, u.keep b ob q n hb hx⟩
theorem Un.kept (k : ∀ b u, h.get? b = some u → h'.get? b = some u) : Un fs ex H H h h' :=
  ⟨fun b ob q _ _ _ => k b ob q, fun b ob q _ _ _ => ⟨ob.slots, k b ob q⟩, fun _ _ _ n _ => n, fun b ob q _ => ⟨ob, k b ob q⟩, fun _ _ q => q, fun _ _ _ q => q, fun _ ps q => ⟨#[], by rw [q]; simp⟩⟩
theorem Un.refl : Un fs ex H H h h := Un.kept fun _ _ q => q
theorem Un.laid (k : ∀ b u, h.get? b = some u → h'.get? b = some u) (hp : h.objs.size ≤ a) (hn : H a = none) : Un fs ex H (upd H a o) h h' where
  keep := fun b u q _ _ _ => k b u q
  slot := fun b u q _ _ _ => ⟨u.slots, k b u q⟩
  free := fun b u q n _ => by rw [upd_ne (Nat.ne_of_lt (Nat.lt_of_lt_of_le (Heap.lt_size q) hp))]; exact n
  there := fun b u q _ => ⟨u, k b u q⟩
  tups := fun b xs q => by rw [upd_ne (ne_of_none q hn)]; exact q
  frzs := fun b u xs q => by rw [upd_ne (ne_of_none q hn)]; exact q
  tbls := fun b ps q => ⟨#[], by rw [upd_ne (ne_of_none q hn), q]; simp⟩
theorem Un.write (mu : Mut (H x)) (he : e = x ∨ H e = some (.own x)) (k : ∀ b u, b ≠ e → h.get? b = some u → h'.get? b = some u) (heo : ∃ u, h'.get? e = some u) : Un fs ex H (upd H x o) h h' := by
  have hx : ∀ b, H b = none → b ≠ x := fun b n z => by subst z; rw [n] at mu; exact mu
  have hb : ∀ b, H b = none → b ≠ e := fun b n z => by
    subst z
    rcases he with r | r
    · exact hx b n r
    · rw [n] at r; cases r
  have hm : ∀ b u, H b = some u → ¬ Mut (some u) → b ≠ x := fun b u q nm z => by subst z; rw [q] at mu; exact nm mu
  refine ⟨fun b u q n _ _ => k b u (hb b n) q, fun b u q n _ _ => ⟨u.slots, k b u (hb b n) q⟩, fun b u q n _ => by rw [upd_ne (hx b n)]; exact n, fun b u q _ => ?_,
    fun b xs q => by rw [upd_ne (hm b _ q fun z => z)]; exact q, fun b u xs q => by rw [upd_ne (hm b _ q fun z => z)]; exact q, fun b ps q => ⟨#[], by rw [upd_ne (hm b _ q fun z => z), q]; simp⟩⟩
  by_cases hbe : b = e
  · subst hbe; exact heo
  · exact ⟨u, k b u hbe q⟩
end

/-! ### the heap without what is tracked -/
def trk (h : Heap) (H : Hp) : List Addr := (List.range h.objs.size).filter fun a => (H a).isSome
def hidT (h : Heap) (H : Hp) : Heap := PySem.W.hideAll h (trk h H)
theorem hidT_size (h : Heap) (H : Hp) : (hidT h H).objs.size = h.objs.size := PySem.W.hideAll_size _ _
theorem hidT_get {h : Heap} {H : Hp} {b : Addr} {o : Obj} (e : h.get? b = some o) (n : H b = none) : (hidT h H).get? b = some o :=
  PySem.W.hideAll_get _ e fun hm => by
    have q : (H b).isSome = true := (List.mem_filter.mp hm).2
    rw [n] at q; simp at q
theorem of_hidT {h : Heap} {H : Hp} {b : Addr} {o : Obj} (e : (hidT h H).get? b = some o) : h.get? b = some o ∧ H b = none := by
  have e' : h.get? b = some o := PySem.W.of_hideAll (trk h H) e
  refine ⟨e', ?_⟩
  cases q : H b with
  | none => rfl
  | some x =>
    have hm : b ∈ trk h H := List.mem_filter.mpr ⟨List.mem_range.mpr (Heap.lt_size e'), by simp [q]⟩
    have z : (hidT h H).get? b = none := PySem.W.hideAll_none (trk h H) hm
    rw [z] at e; cases e

/-! ### OpenK's ledger, filled with every new object but one -/
end L2

namespace L2
open PySem PySem.Spec PyProof.Rows

/-- the module's facts, over the base: the heap at the law's entry without what is tracked there -/
structure Mod (K : PySem.W.Frag) (mg : Str → Option Value) (base : Heap) : Prop where
  kin : K.In base
  glob : base.Ns mainGlobals mg
  blt : ∃ mb, base.Ns builtinsNs mb ∧ ∀ x : Str, x ≠ "__name__" → mb x = bootBuiltins x
  nolimit : base.NoLimit

/-- the context: a def's body (or a comprehension's block) running. base: fixed through the whole law; s₀, H₀: the entry; outer: the frames whose slots others may change (a def's callers); stack: all frames that run;
   ex: iterators that were made ahead of the entry and are walked here (a comprehension's); fn: the names whose cells were made at the entry (a def: all; a comprehension's block: its own); calm: not within an except suite; pn: pins that every state bears; xe: what is wanted of an exception that leaves the code -/
structure Cx where
  prog : Program
  w : World
  K : PySem.W.Frag
  mg : Str → Option Value
  base : Heap
  A : Around
  N : List Str
  s_0 : Shared
  H_0 : Hp
  env : Env
  outer : List Env
  stack : List Env
  ex : List Addr
  fn : Str → Bool
  calm : Bool
  pn : List (Addr × Obj)
  xe : Value → Shared → Prop
/-- the callers' frames -/
def frs (l : List Env) : List Addr := l.filterMap (·.frame)
abbrev Cx.fs (X : Cx) : List Addr := frs X.outer

def Vis (sc : Scope) (x : Str) : Prop := sc.names.lookup x = some .local ∨ sc.names.lookup x = some .cell ∨ sc.names.lookup x = some .free
def Loc (sc : Scope) (x : Str) : Prop := sc.names.lookup x = some .local ∨ sc.names.lookup x = some .cell
def Look (env : Env) (h : Heap) (m : Str → Option Value) (x : Str) (u : Value) : Prop :=
  (env.kindOf x = some .local ∧ m x = some u) ∨ ((env.kindOf x = some .cell ∨ env.kindOf x = some .free) ∧ ∃ c, env.cells.lookup x = some c ∧ h.IsCell c (some u))

structure Cx.Ok (X : Cx) : Prop where
  mod : Mod X.K X.mg X.base
  kind : X.env.scope.kind = .function
  glob : X.env.globals = mainGlobals
  blt : X.env.builtins = builtinsNs
  above : X.s_0.heap.objs.size ≤ X.env.locals
  inj : ∀ x y c, X.env.cells.lookup x = some c → X.env.cells.lookup y = some c → x = y
  has : ∀ x, (X.env.kindOf x = some .cell ∨ X.env.kindOf x = some .free) → ∃ c, X.env.cells.lookup x = some c
  cab : ∀ x c, X.fn x = true → X.env.cells.lookup x = some c → X.s_0.heap.objs.size ≤ c
  hd : X.calm = true → X.A.handled = none
  frames : X.A.frames = some X.stack
  stk : X.stack = X.outer ∨ (X.stack = X.env :: X.outer ∧ X.env.frame = some X.env.locals)
  exf : ∀ b ∈ X.ex, b ≠ X.env.locals ∧ ∀ x c, X.env.cells.lookup x = some c → c ≠ b
  bs : ∀ b o, X.base.get? b = some o → X.s_0.heap.get? b = some o ∧ X.H_0 b = none
  bsz : X.base.objs.size ≤ X.s_0.heap.objs.size
  noex : ∀ b o, X.base.get? b = some o → b ∉ X.ex
  exfs : ∀ b ∈ X.ex, b ∉ X.fs
  funs : X.s_0.heap.FunFrames X.base X.outer
  frf : ∀ b ∈ X.fs, X.H_0 b = none

structure Inv (X : Cx) (pins : List (Addr × Obj)) (σ : List (Option V)) (H : Hp) (s : Shared) : Prop where
  ok : X.Ok
  os : s.os = X.s_0.os
  bare : AllBare s.gens
  base : Un X.fs X.ex X.H_0 H X.s_0.heap s.heap
  loc : ∃ m, s.heap.Ns X.env.locals m ∧ ∀ (i : Nat) (x : Str) (v : V), X.N[i]? = some x → σ[i]? = some (some v) → Vis X.env.scope x → ∃ u, RelV v u ∧ Look X.env s.heap m x u
  cell : ∀ x c, X.env.cells.lookup x = some c → ∃ v, s.heap.IsCell c v
  free : H X.env.locals = none
  freeC : ∀ x c, X.env.cells.lookup x = some c → H c = none
  pin : ∀ p ∈ X.pn ++ pins, s.heap.get? p.1 = some p.2 ∧ H p.1 = none ∧ p.1 ≠ X.env.locals ∧ p.1 ∉ X.fs ∧ ∀ v, p.2.data ≠ .cell v
  hok : HOk X.prog X.w H s.heap
  len : σ.length = X.N.length

section
variable {X : Cx} {pins : List (Addr × Obj)} {σ : List (Option V)} {H H' : Hp} {s : Shared} {h' : Heap}

theorem Cx.Ok.nofr (ok : X.Ok) {b : Addr} {o : Obj} (e : X.base.get? b = some o) : b ∉ X.fs := fun hb => by
  have := (ok.funs.mem hb).1
  rw [e] at this; cases this
theorem Inv.bs (I : Inv X pins σ H s) : ∀ b o, X.base.get? b = some o → s.heap.get? b = some o ∧ H b = none := fun b o e =>
  ⟨I.base.keep b o (I.ok.bs b o e).1 (I.ok.bs b o e).2 (I.ok.nofr e) (I.ok.noex b o e), I.base.free b o (I.ok.bs b o e).1 (I.ok.bs b o e).2 (I.ok.noex b o e)⟩
theorem Inv.bk (I : Inv X pins σ H s) : ∀ b o, X.base.get? b = some o → s.heap.get? b = some o := fun b o e => (I.bs b o e).1
theorem Inv.mod (I : Inv X pins σ H s) : Mod X.K X.mg X.base := I.ok.mod
theorem Inv.kIn (I : Inv X pins σ H s) : X.K.In s.heap := I.ok.mod.kin.keeps I.bk
theorem Inv.lt (I : Inv X pins σ H s) : X.env.locals < s.heap.objs.size := let ⟨_, hn, _⟩ := I.loc; hn.lt
theorem Inv.sz (I : Inv X pins σ H s) : X.s_0.heap.objs.size ≤ s.heap.objs.size := Nat.le_trans I.ok.above (Nat.le_of_lt I.lt)
theorem Inv.nofs (I : Inv X pins σ H s) {a : Addr} (h : s.heap.objs.size ≤ a) : a ∉ X.fs := fun hb => by
  obtain ⟨_, o, ho, _⟩ := I.ok.funs.mem hb
  exact absurd (Nat.lt_of_lt_of_le (Heap.lt_size ho) (Nat.le_trans I.sz h)) (Nat.lt_irrefl _)
theorem Inv.cne (I : Inv X pins σ H s) : ∀ x c, X.env.cells.lookup x = some c → c ≠ X.env.locals := fun x c e z => by
  obtain ⟨v, o, ho, hd⟩ := I.cell x c e
  obtain ⟨m, ⟨o', es, ep, ho', hd', _⟩, _⟩ := I.loc
  rw [z, ho'] at ho; cases ho; rw [hd'] at hd; cases hd
theorem Inv.funs (I : Inv X pins σ H s) : s.heap.FunFrames X.base X.outer := by
  have all : ∀ (l : List Env), (∀ b ∈ frs l, b ∈ X.fs) → X.s_0.heap.FunFrames X.base l → s.heap.FunFrames X.base l := by
    intro l
    induction l with
    | nil => intro _ _; trivial
    | cons env r ih =>
      intro hs hl
      obtain ⟨hk, ⟨L, o, hf, hn, ho, hd⟩, hr⟩ := hl
      have hL : L ∈ X.fs := hs L (by unfold frs; rw [List.filterMap_cons, hf]; exact List.mem_cons_self)
      obtain ⟨sl, e⟩ := I.base.slot L o ho (I.ok.frf L hL) hL fun z => I.ok.exfs L z hL
      exact ⟨hk, ⟨L, _, hf, hn, e, hd⟩, ih (fun b hb => hs b (by unfold frs; rw [List.filterMap_cons, hf]; exact List.mem_cons_of_mem _ hb)) hr⟩
  exact all X.outer (fun _ hb => hb) I.ok.funs

/-- the frames that run, for a call -/
theorem Inv.stack (I : Inv X pins σ H s) : s.heap.FunFrames X.base X.stack := by
  rcases I.ok.stk with e | ⟨e, hf⟩
  · rw [e]; exact I.funs
  · rw [e]
    obtain ⟨m, hn, _⟩ := I.loc
    refine .cons (by rw [I.ok.kind]; decide) hf hn ?_ I.funs
    exact Heap.get?_none_of_le (Nat.le_trans I.ok.bsz I.ok.above)
theorem Inv.stkSub (I : Inv X pins σ H s) : ∀ b ∈ frs X.stack, b ∈ X.env.locals :: X.fs := fun b hb => by
  rcases I.ok.stk with e | ⟨e, hf⟩
  · rw [e] at hb; exact List.mem_cons_of_mem _ hb
  · rw [e] at hb
    unfold frs at hb
    rw [List.filterMap_cons, hf] at hb
    exact hb
theorem Inv.stkFree (I : Inv X pins σ H s) : ∀ b ∈ frs X.stack, H b = none := fun b hb => by
  rcases List.mem_cons.mp (I.stkSub b hb) with e | hb
  · rw [e]; exact I.free
  · obtain ⟨_, o, ho, _⟩ := I.ok.funs.mem hb
    exact I.base.free b o ho (I.ok.frf b hb) fun z => I.ok.exfs b z hb

/-- THE STEP: the untracked objects but the frame and the records at ch are kept (the callers' frames up to slots), the frame's map is kept, the new abstract heap is held -/
theorem Inv.step {g' : Array GenState} {t' : Nat} {d' : Drawn} {ch : List Addr} (I : Inv X pins σ H s)
    (hch : ∀ b ∈ ch, (b ∈ X.ex ∨ X.s_0.heap.objs.size ≤ b) ∧ b ≠ X.env.locals ∧ (∀ x c, X.env.cells.lookup x = some c → c ≠ b) ∧ ∀ p ∈ X.pn ++ pins, p.1 ≠ b)
    (keep : ∀ b o, b ≠ X.env.locals → b ∉ X.fs → b ∉ ch → s.heap.get? b = some o → H b = none → h'.get? b = some o)
    (slot : ∀ b o, b ≠ X.env.locals → b ∈ X.fs → b ∉ ch → s.heap.get? b = some o → H b = none → ∃ sl, h'.get? b = some { o with slots := sl }) (free : ∀ b o, b ∉ ch → s.heap.get? b = some o → H b = none → H' b = none)
    (there : ∀ b o, b ∉ ch → s.heap.get? b = some o → ∃ o', h'.get? b = some o')
    (tups : ∀ b xs, H b = some (.tup xs) → H' b = some (.tup xs)) (frzs : ∀ b o u, H b = some (.frz o u) → H' b = some (.frz o u)) (tbls : ∀ b ps, H b = some (.tbl ps) → ∃ more, H' b = some (.tbl (ps ++ more)))
    (ns : ∀ m, s.heap.Ns X.env.locals m → h'.Ns X.env.locals m) (hok : HOk X.prog X.w H' h') (hg : AllBare g') :
    Inv X pins σ H' { s with heap := h', gens := g', drawn := d', toks := t' } := by
  have neL : ∀ b o, X.s_0.heap.get? b = some o → b ≠ X.env.locals := fun b o e => Nat.ne_of_lt (Nat.lt_of_lt_of_le (Heap.lt_size e) I.ok.above)
  have neC : ∀ b o, X.s_0.heap.get? b = some o → b ∉ X.ex → b ∉ ch := fun b o e hx hb => by
    rcases (hch b hb).1 with z | z
    · exact hx z
    · exact absurd (Nat.lt_of_lt_of_le (Heap.lt_size e) z) (Nat.lt_irrefl _)
  have cellK : ∀ x c, X.env.cells.lookup x = some c → ∀ v, s.heap.IsCell c v → h'.IsCell c v := fun x c e v ⟨o, ho, hd⟩ => by
    have nch : c ∉ ch := fun z => (hch c z).2.2.1 x c e rfl
    by_cases hc : c ∈ X.fs
    · obtain ⟨sl, q⟩ := slot c o (I.cne x c e) hc nch ho (I.freeC x c e)
      exact ⟨_, q, hd⟩
    · exact ⟨o, keep c o (I.cne x c e) hc nch ho (I.freeC x c e), hd⟩
  refine ⟨I.ok, I.os, hg, ⟨fun b o e n hb hx => ?_, fun b o e n hb hx => ?_, fun b o e n hx => ?_, fun b o e hx => ?_, fun b xs e => tups b xs (I.base.tups b xs e), fun b o xs e => frzs b o xs (I.base.frzs b o xs e), fun b ps e => ?_⟩, ?_, fun x c e => ?_, ?_, fun x c e => ?_, fun p hp => ?_, hok, I.len⟩
  · exact keep b o (neL b o e) hb (neC b o e hx) (I.base.keep b o e n hb hx) (I.base.free b o e n hx)
  · obtain ⟨sl, e1⟩ := I.base.slot b o e n hb hx
    obtain ⟨sl', e2⟩ := slot b _ (neL b o e) hb (neC b o e hx) e1 (I.base.free b o e n hx)
    exact ⟨sl', e2⟩
  · obtain ⟨o', e1⟩ := I.base.there b o e hx
    exact free b o' (neC b o e hx) e1 (I.base.free b o e n hx)
  · obtain ⟨o', e1⟩ := I.base.there b o e hx
    exact there b o' (neC b o e hx) e1
  · obtain ⟨m1, e1⟩ := I.base.tbls b ps e
    obtain ⟨m2, e2⟩ := tbls b _ e1
    exact ⟨m1 ++ m2, by rw [e2, Array.append_assoc]⟩
  · obtain ⟨m, hn, hl⟩ := I.loc
    refine ⟨m, ns m hn, fun i x v e1 e2 e3 => ?_⟩
    obtain ⟨u, r, l⟩ := hl i x v e1 e2 e3
    refine ⟨u, r, ?_⟩
    rcases l with l | ⟨k, c, e, z⟩
    · exact .inl l
    · exact .inr ⟨k, c, e, cellK x c e _ z⟩
  · obtain ⟨v, z⟩ := I.cell x c e
    exact ⟨v, cellK x c e v z⟩
  · obtain ⟨m, ⟨o, _, _, ho, _⟩, _⟩ := I.loc
    exact free _ o (fun z => (hch _ z).2.1 rfl) ho I.free
  · obtain ⟨v, o, ho, hd⟩ := I.cell x c e
    exact free c o (fun z => (hch c z).2.2.1 x c e rfl) ho (I.freeC x c e)
  · obtain ⟨e, n, ne, nf, d⟩ := I.pin p hp
    have nch : p.1 ∉ ch := fun z => (hch p.1 z).2.2.2 p hp rfl
    exact ⟨keep p.1 p.2 ne nf nch e n, free p.1 p.2 nch e n, ne, nf, d⟩
/-- .. where the frame's own object is kept too -/
theorem Inv.un {t' : Nat} (I : Inv X pins σ H s) (u : Un X.fs [] H H' s.heap h') (hok : HOk X.prog X.w H' h') : Inv X pins σ H' { s with heap := h', toks := t' } := by
  obtain ⟨m, ⟨o, es, ep, ho, r⟩, _⟩ := id I.loc
  obtain ⟨sl, hL⟩ := u.any ho I.free (by simp)
  exact I.step (g' := s.gens) (d' := s.drawn) (ch := []) (fun _ z => nomatch z) (fun b o _ hb _ e n => u.keep b o e n hb (by simp)) (fun b o _ hb _ e n => u.slot b o e n hb (by simp)) (fun b o _ e n => u.free b o e n (by simp)) (fun b o _ e => u.there b o e (by simp)) u.tups u.frzs u.tbls (fun m' hm => by
    obtain ⟨o', es', ep', ho', r'⟩ := hm
    rw [ho] at ho'; cases ho'
    exact ⟨_, es', ep', hL, r'⟩) hok I.bare
/-- behind a call (or a comprehension's block): the slots of this frame may have changed too, the records at ch may have turned -/
theorem Inv.call {g' : Array GenState} {t' : Nat} {d' : Drawn} {ch : List Addr} (I : Inv X pins σ H s) (u : Un (frs X.stack) ch H H' s.heap h') (hok : HOk X.prog X.w H' h') (hg : AllBare g')
    (hch : ∀ b ∈ ch, (b ∈ X.ex ∨ X.s_0.heap.objs.size ≤ b) ∧ b ≠ X.env.locals ∧ (∀ x c, X.env.cells.lookup x = some c → c ≠ b) ∧ ∀ p ∈ X.pn ++ pins, p.1 ≠ b) :
    Inv X pins σ H' { s with heap := h', gens := g', drawn := d', toks := t' } := by
  obtain ⟨m, ⟨o, es, ep, ho, r⟩, _⟩ := id I.loc
  obtain ⟨sl, hL⟩ := u.any ho I.free fun z => (hch _ z).2.1 rfl
  exact I.step (ch := ch) hch (fun b o hL hb hc e n => u.keep b o e n (fun z => (List.mem_cons.mp (I.stkSub b z)).elim hL hb) hc) (fun b o _ _ hc e n => u.any e n hc) (fun b o hc e n => u.free b o e n hc) (fun b o hc e => u.there b o e hc) u.tups u.frzs u.tbls (fun m' hm => by
    obtain ⟨o', es', ep', ho', r'⟩ := hm
    rw [ho] at ho'; cases ho'
    exact ⟨_, es', ep', hL, r'⟩) hok hg
/-- an untracked record of ours (an iterator) has turned -/
theorem Inv.turned {t' : Nat} {it : Addr} (I : Inv X pins σ H s) (k : ∀ b o, b ≠ it → s.heap.get? b = some o → h'.get? b = some o) (hn : H it = none) (hL : it ≠ X.env.locals)
    (h1 : it ∈ X.ex ∨ X.s_0.heap.objs.size ≤ it) (h2 : ∀ x c, X.env.cells.lookup x = some c → c ≠ it) (h3 : ∀ p ∈ X.pn ++ pins, p.1 ≠ it) : Inv X pins σ H { s with heap := h', toks := t' } := by
  have nit : ∀ b u, H b = some u → b ≠ it := fun b u e z => by rw [z, hn] at e; cases e
  refine I.step (g' := s.gens) (d' := s.drawn) (ch := [it]) (fun b hb => ?_) (fun b o _ _ hc e _ => k b o (fun z => hc (by simp [z])) e) (fun b o _ _ hc e _ => ⟨o.slots, k b o (fun z => hc (by simp [z])) e⟩) (fun _ _ _ _ n => n)
    (fun b o hc e => ⟨o, k b o (fun z => hc (by simp [z])) e⟩) (fun _ _ e => e) (fun _ _ _ e => e) (fun b ps e => ⟨#[], by rw [e]; simp⟩) (fun m hm => ?_) (fun b u e => ?_) I.bare
  · have e : b = it := by simpa using hb
    subst e
    exact ⟨h1, hL, h2, h3⟩
  · obtain ⟨o, es, ep, ho, r⟩ := hm
    exact ⟨o, es, ep, k _ o (Ne.symm hL) ho, r⟩
  · refine (I.hok b u e).stay (fun c v hc q => k c v ?_ q) (fun _ q => q) fun _ _ q => q
    rcases hc with z | z
    · rw [z]; exact nit b u e
    · exact nit c _ z
theorem Inv.tok (I : Inv X pins σ H s) (t : Nat) : Inv X pins σ H { s with toks := t } := I.un (h' := s.heap) (t' := t) Un.refl I.hok
/-- all objects kept -/
theorem Inv.kept {t' : Nat} (I : Inv X pins σ H s) (k : ∀ b u, s.heap.get? b = some u → h'.get? b = some u) : Inv X pins σ H { s with heap := h', toks := t' } := I.un (Un.kept k) (I.hok.kept k)
/-- a new object laid and tracked -/
theorem Inv.laid {a : Addr} {o : HO} {t' : Nat} (I : Inv X pins σ H s) (k : ∀ b u, s.heap.get? b = some u → h'.get? b = some u) (hp : s.heap.objs.size ≤ a) (new : ObjOk X.prog X.w (upd H a o) h' a o) :
    Inv X pins σ (upd H a o) { s with heap := h', toks := t' } := I.un (Un.laid k hp (I.hok.fresh hp)) (I.hok.laid k hp new)
/-- an object written -/
theorem Inv.write {x e : Addr} {o : HO} {t' : Nat} (I : Inv X pins σ H s) (mu : Mut (H x)) (he : e = x ∨ H e = some (.own x)) (k : ∀ b u, b ≠ e → s.heap.get? b = some u → h'.get? b = some u) (heo : ∃ u, h'.get? e = some u)
    (new : ObjOk X.prog X.w (upd H x o) h' x o) : Inv X pins σ (upd H x o) { s with heap := h', toks := t' } := I.un (Un.write mu he k heo) (I.hok.write mu he k heo new)
theorem Inv.pins_of {pins' : List (Addr × Obj)} (I : Inv X pins σ H s) (h : ∀ p ∈ pins', s.heap.get? p.1 = some p.2 ∧ H p.1 = none ∧ p.1 ≠ X.env.locals ∧ p.1 ∉ X.fs ∧ ∀ v, p.2.data ≠ .cell v) : Inv X pins' σ H s :=
  ⟨I.ok, I.os, I.bare, I.base, I.loc, I.cell, I.free, I.freeC, fun p hp => (List.mem_append.mp hp).elim (fun z => I.pin p (List.mem_append_left _ z)) (h p), I.hok, I.len⟩

theorem nodup_ix {N : List Str} (hN : N.Nodup) {i j : Nat} {x : Str} (a : N[i]? = some x) (b : N[j]? = some x) : i = j := by
  obtain ⟨h1, e1⟩ := List.getElem?_eq_some_iff.mp a
  obtain ⟨h2, e2⟩ := List.getElem?_eq_some_iff.mp b
  exact (List.getElem_inj hN).mp (e1.trans e2.symm)

/-- a name is stored; what changed -/
theorem store_ok2 {M : Model} {A : Around} {E : Value → Shared → Prop} {i : Nat} {x : Str} {v : V} {u : Value} {Q : Unit → Shared → Prop} (I : Inv X pins σ H s) (hN : X.N.Nodup) (hi : X.N[i]? = some x) (hx : Loc X.env.scope x) (r : RelV v u)
    (h : ∀ s', Inv X pins (σ.set i (some v)) H s' → (∃ a, Heap.SameBut a s.heap s'.heap ∧ (a = X.env.locals ∨ X.env.cells.lookup x = some a)) → Q () s') (hf : X.fn x = true ∨ X.env.scope.names.lookup x = some .local := by first | exact .inl rfl | exact .inr rfl | assumption) : wpAny M A (storeName X.env x u) Q E s := by
  obtain ⟨m, hn, hl⟩ := id I.loc
  have hcls : (X.env.scope.kind == .class || (X.env.scope.kind == .module && X.env.locals != X.env.globals)) = false := by rw [I.ok.kind]; rfl
  have hiσ : i < σ.length := by rw [I.len]; exact (List.getElem?_eq_some_iff.mp hi).1
  have cne := I.cne
  have tracked : ∀ {a : Addr} {h' : Heap}, (∃ o, s.heap.get? a = some o ∧ H a = none) → Heap.SameBut a s.heap h' → HOk X.prog X.w H h' := fun {a h'} ha hs b ob e => by
    obtain ⟨_, _, hfree⟩ := ha
    refine (I.hok b ob e).stay (fun c w' hc q => (hs.2 c ?_).trans q) (fun _ q => q) fun _ _ q => q
    rintro rfl
    rcases hc with rfl | hc
    · rw [hfree] at e; cases e
    · rw [hfree] at hc; cases hc
  rcases hx with hk | hk
  · refine wpAny_storeName_local hk hn (fun h' hn' hs => ?_) hcls
    obtain ⟨oL, _, _, hoL, _⟩ := id hn
    refine h _ ⟨I.ok, I.os, I.bare, ⟨fun b o e n hb hx => ?_, fun b o e n hb hx => ?_, I.base.free, fun b o e hx => ?_, I.base.tups, I.base.frzs, I.base.tbls⟩, ⟨_, hn', fun j y v' e1 e2 e3 => ?_⟩, fun y c e => ?_, I.free, I.freeC, fun p hp => ?_, tracked ⟨oL, hoL, I.free⟩ hs, by simpa using I.len⟩ ⟨_, hs, .inl rfl⟩
    · exact (hs.2 b (Nat.ne_of_lt (Nat.lt_of_lt_of_le (Heap.lt_size e) I.ok.above))).trans (I.base.keep b o e n hb hx)
    · obtain ⟨sl, e1⟩ := I.base.slot b o e n hb hx
      exact ⟨sl, (hs.2 b (Nat.ne_of_lt (Nat.lt_of_lt_of_le (Heap.lt_size e) I.ok.above))).trans e1⟩
    · obtain ⟨o', e1⟩ := I.base.there b o e hx
      exact ⟨o', (hs.2 b (Nat.ne_of_lt (Nat.lt_of_lt_of_le (Heap.lt_size e) I.ok.above))).trans e1⟩
    · by_cases hj : j = i
      · subst hj
        rw [hi] at e1; cases e1
        rw [List.getElem?_set_self hiσ] at e2
        cases e2
        exact ⟨u, r, .inl ⟨hk, by simp⟩⟩
      · rw [List.getElem?_set_ne (Ne.symm hj)] at e2
        obtain ⟨u', r', q⟩ := hl j y v' e1 e2 e3
        refine ⟨u', r', ?_⟩
        rcases q with ⟨k, e⟩ | ⟨k, c, e, z⟩
        · refine .inl ⟨k, ?_⟩
          have : y ≠ x := fun e => hj (nodup_ix hN e1 (e ▸ hi))
          simp [this, e]
        · exact .inr ⟨k, c, e, z.sameBut hs (cne y c e)⟩
    · obtain ⟨w', z⟩ := I.cell y c e
      exact ⟨w', z.sameBut hs (cne y c e)⟩
    · obtain ⟨e, n, ne, nf, d⟩ := I.pin p hp
      exact ⟨(hs.2 p.1 ne).trans e, n, ne, nf, d⟩
  · have hfn : X.fn x = true := by
      rcases hf with z | z
      · exact z
      · rw [z] at hk; cases hk
    obtain ⟨c, hc⟩ := I.ok.has x (.inl hk)
    obtain ⟨w', z⟩ := I.cell x c hc
    refine wpAny_storeName_cell I.ok.kind hk hc z (fun h' hc' hs => ?_)
    obtain ⟨oc, hoc, hocd⟩ := id z
    refine h { s with heap := h' } ⟨I.ok, I.os, I.bare, ⟨fun b o e n hb hx => ?_, fun b o e n hb hx => ?_, I.base.free, fun b o e hx => ?_, I.base.tups, I.base.frzs, I.base.tbls⟩, ⟨m, hn.sameBut hs (Ne.symm (cne x c hc)), fun j y v' e1 e2 e3 => ?_⟩, fun y c' e => ?_, I.free, I.freeC, fun p hp => ?_, tracked ⟨oc, hoc, I.freeC x c hc⟩ hs, by simpa using I.len⟩ ⟨c, hs, .inr hc⟩
    · exact (hs.2 b (Nat.ne_of_lt (Nat.lt_of_lt_of_le (Heap.lt_size e) (I.ok.cab x c hfn hc)))).trans (I.base.keep b o e n hb hx)
    · obtain ⟨sl, e1⟩ := I.base.slot b o e n hb hx
      exact ⟨sl, (hs.2 b (Nat.ne_of_lt (Nat.lt_of_lt_of_le (Heap.lt_size e) (I.ok.cab x c hfn hc)))).trans e1⟩
    · obtain ⟨o', e1⟩ := I.base.there b o e hx
      exact ⟨o', (hs.2 b (Nat.ne_of_lt (Nat.lt_of_lt_of_le (Heap.lt_size e) (I.ok.cab x c hfn hc)))).trans e1⟩
    · by_cases hj : j = i
      · subst hj
        rw [hi] at e1; cases e1
        rw [List.getElem?_set_self hiσ] at e2
        cases e2
        exact ⟨u, r, .inr ⟨.inl hk, c, hc, hc'⟩⟩
      · rw [List.getElem?_set_ne (Ne.symm hj)] at e2
        obtain ⟨u', r', q⟩ := hl j y v' e1 e2 e3
        refine ⟨u', r', ?_⟩
        rcases q with q | ⟨k, c', e, z'⟩
        · exact .inl q
        · refine .inr ⟨k, c', e, z'.sameBut hs ?_⟩
          rintro rfl
          exact hj (nodup_ix hN e1 (I.ok.inj _ _ _ e hc ▸ hi))
    · by_cases hcc : c' = c
      · subst hcc; exact ⟨_, hc'⟩
      · obtain ⟨w2, z2⟩ := I.cell y c' e
        exact ⟨w2, z2.sameBut hs hcc⟩
    · obtain ⟨e, n, ne, nf, d⟩ := I.pin p hp
      refine ⟨(hs.2 p.1 ?_).trans e, n, ne, nf, d⟩
      intro q
      rw [q, hoc] at e
      have q' : oc = p.2 := Option.some.inj e
      exact d w' (by rw [← q']; exact hocd)
theorem store_ok {M : Model} {A : Around} {E : Value → Shared → Prop} {i : Nat} {x : Str} {v : V} {u : Value} {Q : Unit → Shared → Prop} (I : Inv X pins σ H s) (hN : X.N.Nodup) (hi : X.N[i]? = some x) (hx : Loc X.env.scope x) (r : RelV v u)
    (h : ∀ s', Inv X pins (σ.set i (some v)) H s' → Q () s') (hf : X.fn x = true ∨ X.env.scope.names.lookup x = some .local := by first | exact .inl rfl | exact .inr rfl | assumption) : wpAny M A (storeName X.env x u) Q E s :=
  store_ok2 I hN hi hx r (fun s' I' _ => h s' I') hf
end

/-! ### the judgements -/
/-- an exception: its class, its own dict's address (where it has one), the abstract heap behind it -/
abbrev XK := Value → Option Addr → Hp → Prop
abbrev St := List (Option V)
abbrev VK := V → Hp → Prop
/-- an expression's reading; a test's; an argument list's -/
abbrev TE := St → Hp → VK → Prop
abbrev TT := St → Hp → (Bool → Hp → Prop) → Prop
abbrev TA := St → Hp → (List V → Hp → Prop) → Prop
/-- what is wanted behind a statement -/
structure Ends where
  nx : St → Hp → Prop
  rt : VK
  bk : St → Hp → Prop := fun _ _ => False
  ct : St → Hp → Prop := fun _ _ => False
abbrev TS := Ends → St → Hp → Prop

def EP (X : Cx) (pins : List (Addr × Obj)) (σ : St) (Q : VK) (u : Value) (s' : Shared) : Prop := ∃ v H', Inv X pins σ H' s' ∧ RelV v u ∧ Q v H'
def TP (X : Cx) (pins : List (Addr × Obj)) (σ : St) (Q : Bool → Hp → Prop) (b : Bool) (s' : Shared) : Prop := ∃ H', Inv X pins σ H' s' ∧ Q b H'
def AP (X : Cx) (pins : List (Addr × Obj)) (σ : St) (Q : List V → Hp → Prop) (us : List Value) (s' : Shared) : Prop := ∃ vs H', Inv X pins σ H' s' ∧ Vals vs us ∧ Q vs H'
def SP (X : Cx) (pins : List (Addr × Obj)) (D : Ends) (f : Flow) (s' : Shared) : Prop :=
  match f with
  | .next => ∃ σ' H', Inv X pins σ' H' s' ∧ D.nx σ' H'
  | .brk => ∃ σ' H', Inv X pins σ' H' s' ∧ D.bk σ' H'
  | .cont => ∃ σ' H', Inv X pins σ' H' s' ∧ D.ct σ' H'
  | .ret u => ∃ v σ' H', Inv X pins σ' H' s' ∧ RelV v u ∧ D.rt v H'

def PE (X : Cx) (e : Expr) (t : TE) : Prop :=
  ∀ (pins : List (Addr × Obj)) (s : Shared) (σ : St) (H : Hp) (Q : VK), Inv X pins σ H s → t σ H Q → wpAny (model X.prog X.w) X.A (eval e X.env) (EP X pins σ Q) X.xe s
def PT (X : Cx) (e : Expr) (t : TT) : Prop :=
  ∀ (pins : List (Addr × Obj)) (s : Shared) (σ : St) (H : Hp) (Q : Bool → Hp → Prop), Inv X pins σ H s → t σ H Q → wpAny (model X.prog X.w) X.A (isTrue e X.env (eval e X.env)) (TP X pins σ Q) X.xe s
/-- a test whatever its 'whole' is (and, or) -/
def PW (X : Cx) (e : Expr) (t : TT) : Prop :=
  ∀ (whole : Sem Value) (pins : List (Addr × Obj)) (s : Shared) (σ : St) (H : Hp) (Q : Bool → Hp → Prop), Inv X pins σ H s → t σ H Q → wpAny (model X.prog X.w) X.A (isTrue e X.env whole) (TP X pins σ Q) X.xe s
theorem PW.pt {X : Cx} {e : Expr} {t : TT} (h : PW X e t) : PT X e t := h _
/-- an argument list (no star), from the left -/
def PA (X : Cx) (es : List Expr) (t : TA) : Prop :=
  ∀ (pos : Pos) (pins : List (Addr × Obj)) (s : Shared) (σ : St) (H : Hp) (Q : List V → Hp → Prop), Inv X pins σ H s → t σ H Q → wpAny (model X.prog X.w) X.A (spliced (backTo pos (starEach es X.env))) (AP X pins σ Q) X.xe s
def PS (X : Cx) (st : Stmt) (t : TS) : Prop :=
  ∀ (pins : List (Addr × Obj)) (s : Shared) (σ : St) (H : Hp) (D : Ends), Inv X pins σ H s → t D σ H → wpAny (model X.prog X.w) X.A (exec st X.env) (SP X pins D) X.xe s
def PSs (X : Cx) (st : List Stmt) (t : TS) : Prop :=
  ∀ (pins : List (Addr × Obj)) (s : Shared) (σ : St) (H : Hp) (D : Ends), Inv X pins σ H s → t D σ H → wpAny (model X.prog X.w) X.A (execs st X.env) (SP X pins D) X.xe s
/-- weaken the end -/
theorem thn {α : Type} {t : Sem α} {Q Q' : α → Shared → Prop} {M : Model} {A : Around} {E : Value → Shared → Prop} {s : Shared} (h : wpAny M A t Q E s) (hQ : ∀ a s, Q a s → Q' a s) : wpAny M A t Q' E s := wpAny_mono h hQ fun _ _ x => x
end L2

namespace L2
open PySem PySem.Spec PyProof.Rows
section
variable {X : Cx}


/-! ### names and constants -/
def tVar (i : Nat) : TE := fun σ H Q => ∃ v, σ[i]? = some (some v) ∧ Q v H
def tC (v : V) : TE := fun _ H Q => Q v H
theorem pe_var {i : Nat} {x : Str} {pos : Pos} (hN : X.N[i]? = some x) (hv : Vis X.env.scope x) (hd : (x == ("__debug__" : Str)) = false := by decide) (hcd : (x == ("__classdict__" : Str)) = false := by decide) : PE X (.Name x pos) (tVar i) := by
  intro pins s σ H Q I h
  obtain ⟨v, e, h⟩ := h
  obtain ⟨m, hn, hl⟩ := I.loc
  obtain ⟨u, r, l⟩ := hl i x v hN e hv
  have fin : EP X pins σ Q u s := ⟨v, H, I, r, h⟩
  rcases l with ⟨hk, hm⟩ | ⟨hk, c, hc, hcell⟩
  · exact wpAny_Name (wpAny_loadName_local I.ok.kind hk hn hm fin) hd
  · rcases hk with hk | hk
    · exact wpAny_Name (wpAny_loadName_cell I.ok.kind hk hc hcell fin) hd
    · exact wpAny_Name (wpAny_loadName_free I.ok.kind hk hc hcell fin hcd) hd
theorem pe_int {i j pos} : PE X (.Constant (.int i) j pos) (tC (.int i)) := fun _ _ _ H _ I h => wpAny_Constant_int ⟨.int i, H, I.tok _, ⟨_, rfl⟩, h⟩
theorem pe_non {j pos} : PE X (.Constant .none j pos) (tC .non) := fun _ _ _ H _ I h => Constant_none ⟨.non, H, I, rfl, h⟩

/-- a global name of the def -/
def Gl (X : Cx) (x : Str) : Prop := X.env.kindOf x = some .globalImplicit
theorem ld_glob {E : Value → Shared → Prop} {pins : List (Addr × Obj)} {s : Shared} {σ : St} {H : Hp} {x : Str} {u : Value} {pos : Pos} {Q : Value → Shared → Prop} (I : Inv X pins σ H s) (hg : Gl X x) (hm : X.mg x = some u) (h : Q u s)
    (hd : (x == ("__debug__" : Str)) = false := by decide) : wpAny (model X.prog X.w) X.A (eval (.Name x pos) X.env) Q E s :=
  Calls.Name_function_global I.ok.kind hg (Calls.loadGlobal_global (by rw [I.ok.glob]; exact I.mod.glob.keeps I.bk) hm h) hd
theorem ld_blt {E : Value → Shared → Prop} {pins : List (Addr × Obj)} {s : Shared} {σ : St} {H : Hp} {x : Str} {u : Value} {pos : Pos} {Q : Value → Shared → Prop} (I : Inv X pins σ H s) (hg : Gl X x) (hm : X.mg x = none) (hv : bootBuiltins x = some u) (h : Q u s)
    (hn : x ≠ "__name__" := by decide) (hd : (x == ("__debug__" : Str)) = false := by decide) : wpAny (model X.prog X.w) X.A (eval (.Name x pos) X.env) Q E s := by
  obtain ⟨mb, h1, h2⟩ := I.mod.blt
  exact Calls.Name_function_global I.ok.kind hg (Calls.loadGlobal_builtin (by rw [I.ok.glob]; exact I.mod.glob.keeps I.bk) hm (by rw [I.ok.blt]; exact h1.keeps I.bk) ((h2 x hn).trans hv) h) hd
/-- a module's constant, a class, a function, as a value -/
theorem pe_glob {x : Str} {v : V} {u : Value} {pos : Pos} (hg : Gl X x) (hm : X.mg x = some u) (r : RelV v u) (hd : (x == ("__debug__" : Str)) = false := by decide) : PE X (.Name x pos) (tC v) :=
  fun _ _ _ H _ I h => ld_glob I hg hm ⟨v, H, I, r, h⟩ hd

/-! ### arithmetic -/
variable {a b : Expr} {ta tb : TE} {pos : Pos}

/-! ### comparisons -/
/-- a comparison as a value, as a test -/
def tB (t : TE) : TT := fun σ H Q => t σ H fun x H1 => ∃ c, x = .bl c ∧ Q c H1
/-- an expression whose value is a bool, as a test -/
theorem pt_val {e : Expr} {t : TE} (h : PE X e t) (he : ∀ whole, isTrue e X.env whole = (do let v ← whole; standAt e.pos; holding [v] (truthy v)) := by intro _; rfl) : PT X e (tB t) := by
  intro pins s σ H Q I hw
  refine isTrue_plain (thn (h pins s σ H _ I hw) fun v s1 ⟨x, H1, I1, r1, q1⟩ => ?_) (he _)
  obtain ⟨d, rfl, q⟩ := q1
  cases r1
  exact wpAny_truthy_bool ⟨H1, I1, q⟩

/-! ### and, or, not -/
variable {tA tB' : TT} {rest : List Expr}
def tAnd (t u : TT) : TT := fun σ H Q => t σ H fun c H1 => if c = true then u σ H1 Q else Q false H1
def tOr (t u : TT) : TT := fun σ H Q => t σ H fun c H1 => if c = true then Q true H1 else u σ H1 Q
def tNot (t : TT) : TT := fun σ H Q => t σ H fun c H1 => Q (!c) H1
theorem pw_and1 (ha : PT X a tA) : PW X (.BoolOp .And [a] pos) tA := by
  intro wh pins s σ H Q I h
  refine isTrue_and (thn (ha pins s σ H Q I h) fun c s1 e => ?_)
  cases c with
  | true => exact isTrue_and_nil e
  | false => exact e
theorem pw_or1 (ha : PT X a tA) : PW X (.BoolOp .Or [a] pos) tA := by
  intro wh pins s σ H Q I h
  refine isTrue_or (thn (ha pins s σ H Q I h) fun c s1 e => ?_)
  cases c with
  | false => exact isTrue_or_nil e
  | true => exact e
theorem pw_and (ha : PT X a tA) (hb : PW X (.BoolOp .And (b :: rest) pos) tB') : PW X (.BoolOp .And (a :: b :: rest) pos) (tAnd tA tB') := by
  intro wh pins s σ H Q I h
  refine isTrue_and (thn (ha pins s σ H _ I h) fun c s1 ⟨H1, I1, q1⟩ => ?_)
  cases c with
  | true => exact hb wh pins s1 σ H1 Q I1 q1
  | false => exact ⟨H1, I1, q1⟩
theorem pw_or (ha : PT X a tA) (hb : PW X (.BoolOp .Or (b :: rest) pos) tB') : PW X (.BoolOp .Or (a :: b :: rest) pos) (tOr tA tB') := by
  intro wh pins s σ H Q I h
  refine isTrue_or (thn (ha pins s σ H _ I h) fun c s1 ⟨H1, I1, q1⟩ => ?_)
  cases c with
  | true => exact ⟨H1, I1, q1⟩
  | false => exact hb wh pins s1 σ H1 Q I1 q1
theorem pt_not (ha : PT X a tA) : PT X (.UnaryOp .Not a pos) (tNot tA) := by
  intro pins s σ H Q I h
  exact isTrue_not (ha pins s σ H (fun c H1 => Q (!c) H1) I h)
/-- .. as values (bools) -/
def tAndV (ta tb : TE) : TE := fun σ H Q => ta σ H fun x H1 => ∃ c, x = .bl c ∧ if c = true then tb σ H1 Q else Q (.bl false) H1
def tOrV (ta tb : TE) : TE := fun σ H Q => ta σ H fun x H1 => ∃ c, x = .bl c ∧ if c = true then Q (.bl true) H1 else tb σ H1 Q
theorem pe_one {op} {t : TE} (h : PE X a t) : PE X (.BoolOp op [a] pos) t := fun pins s σ H Q I hw => BoolOp_one (h pins s σ H Q I hw)
theorem pe_and (ha : PE X a ta) (hb : PE X (.BoolOp .And (b :: rest) pos) tb) : PE X (.BoolOp .And (a :: b :: rest) pos) (tAndV ta tb) := by
  intro pins s σ H Q I h
  refine BoolOp_and (thn (ha pins s σ H _ I h) fun v s1 ⟨x, H1, I1, r1, q1⟩ => ?_)
  obtain ⟨c, rfl, q1⟩ := q1
  cases r1
  refine wpAny_truthy_bool ?_
  cases c with
  | true => exact hb pins s1 σ H1 Q I1 q1
  | false => exact ⟨.bl false, H1, I1, rfl, q1⟩
theorem pe_or (ha : PE X a ta) (hb : PE X (.BoolOp .Or (b :: rest) pos) tb) : PE X (.BoolOp .Or (a :: b :: rest) pos) (tOrV ta tb) := by
  intro pins s σ H Q I h
  refine BoolOp_or (thn (ha pins s σ H _ I h) fun v s1 ⟨x, H1, I1, r1, q1⟩ => ?_)
  obtain ⟨c, rfl, q1⟩ := q1
  cases r1
  refine wpAny_truthy_bool ?_
  cases c with
  | false => exact hb pins s1 σ H1 Q I1 q1
  | true => exact ⟨.bl true, H1, I1, rfl, q1⟩
/-- a if t else b -/
def tIf (t : TT) (ta tb : TE) : TE := fun σ H Q => t σ H fun c H1 => if c = true then ta σ H1 Q else tb σ H1 Q
theorem pe_ifExp {c : Expr} (hc : PT X c tA) (ha : PE X a ta) (hb : PE X b tb) : PE X (.IfExp c a b pos) (tIf tA ta tb) := by
  intro pins s σ H Q I h
  refine wpAny_IfExp (thn (hc pins s σ H _ I h) fun d s1 ⟨H1, I1, q1⟩ => ?_)
  cases d with
  | true => exact ha pins s1 σ H1 Q I1 q1
  | false => exact hb pins s1 σ H1 Q I1 q1
end
end L2

namespace L2
open PySem PySem.Spec PyProof.Rows

/-! ### a list, a tuple that is read: tracked, frozen, or an object of the module -/
def SqL (K : PySem.W.Frag) (H : Hp) (a : Addr) (xs : List V) : Prop :=
  Rd H a (.lst xs) ∨
    ∃ (o : Obj) (its : Array Value) (n : Nat), K.lookup a = some o ∧ o.cls = .type "list" ∧ o.dict = none ∧ o.data = .seq its n ∧ its.size ≤ sizeLine ∧ Vals xs its.toList
def SqT (K : PySem.W.Frag) (H : Hp) (a : Addr) (xs : List V) : Prop :=
  Rd H a (.tup xs) ∨
    ∃ (o : Obj) (its : Array Value) (n : Nat), K.lookup a = some o ∧ o.cls = .type "tuple" ∧ o.data = .seq its n ∧ its.size ≤ sizeLine ∧ Vals xs its.toList
def absV : Value → Option V
  | .none => some .non
  | .bool b => some (.bl b)
  | .int i _ => some (.int i)
  | .str x _ => some (.str x)
  | .bytes b _ => some (.byt b)
  | .float b _ => some (.flt b)
  | .ref a => some (.ref a)
  | .type n => some (.ty n)
  | _ => none
theorem RelV.abs {x : V} {u : Value} (r : RelV x u) : absV u = some x := by
  cases x with
  | non => cases r; rfl
  | bl _ => cases r; rfl
  | int _ => obtain ⟨t, rfl⟩ := r; rfl
  | str _ => obtain ⟨t, rfl⟩ := r; rfl
  | byt _ => obtain ⟨t, rfl⟩ := r; rfl
  | flt _ => obtain ⟨t, rfl⟩ := r; rfl
  | ref _ => cases r; rfl
  | ty _ => cases r; rfl
theorem RelV.inj {x y : V} {u : Value} (r : RelV x u) (q : RelV y u) : x = y := Option.some.inj (r.abs.symm.trans q.abs)
theorem Vals.inj : ∀ {xs ys : List V} {us : List Value}, Vals xs us → Vals ys us → xs = ys
  | _, _, _, .nil, .nil => rfl
  | _, _, _, .cons r t, .cons r' t' => by rw [r.inj r', Vals.inj t t']
section
variable {X : Cx} {pins : List (Addr × Obj)} {σ : St} {H : Hp} {s : Shared} {a : Addr} {xs ys : List V}
theorem SqL.of {K : PySem.W.Frag} (h : H a = some (.lst xs)) : SqL K H a xs := .inl (.inl h)
theorem SqT.of {K : PySem.W.Frag} (h : H a = some (.tup xs)) : SqT K H a xs := .inl (.inl h)
theorem Inv.list (I : Inv X pins σ H s) (h : SqL X.K H a xs) : ∃ its : List Value, Vals xs its ∧ PlainL s.heap a its.toArray ∧ xs.length ≤ sizeLine := by
  rcases h with h | ⟨o, its, n, hk, hc, hd, hs, hz, r⟩
  · obtain ⟨z, its, n, r, e⟩ := h.ok I.hok
    exact ⟨its, r, ⟨_, n, e, rfl, rfl, rfl⟩, z⟩
  · refine ⟨its.toList, r, ⟨o, n, I.kIn a o hk, hc, hd, by simpa using hs⟩, ?_⟩
    have e := r.length
    simp only [Array.length_toList] at e
    omega
theorem Inv.tuple (I : Inv X pins σ H s) (h : SqT X.K H a xs) : ∃ its : List Value, Vals xs its ∧ IsTup s.heap a its.toArray ∧ xs.length ≤ sizeLine := by
  rcases h with h | ⟨o, its, n, hk, hc, hs, hz, r⟩
  · obtain ⟨z, its, r, p⟩ := h.ok I.hok
    exact ⟨its, r, p, z⟩
  · refine ⟨its.toList, r, ⟨o, I.kIn a o hk, hc, n, by simpa using hs⟩, ?_⟩
    have e := r.length
    simp only [Array.length_toList] at e
    omega
theorem Inv.tuple_inj (I : Inv X pins σ H s) (h : SqT X.K H a xs) (h' : SqT X.K H a ys) : xs = ys := by
  obtain ⟨its, r, ⟨o, e, _, n, d⟩, _⟩ := I.tuple h
  obtain ⟨its', r', ⟨o', e', _, n', d'⟩, _⟩ := I.tuple h'
  rw [e] at e'; cases e'
  rw [d] at d'
  injection d' with d1 _
  have : its = its' := by simpa using congrArg Array.toList d1
  subst this
  exact r.inj r'
end

/-! ### another wish about exceptions -/
abbrev Cx.wish (X : Cx) (E : Value → Shared → Prop) : Cx := { X with xe := E }
/-- no exception leaves -/
abbrev Cx.nox (X : Cx) : Cx := X.wish fun _ _ => False
theorem Cx.Ok.wish {X : Cx} (ok : X.Ok) (E : Value → Shared → Prop) : (X.wish E).Ok :=
  ⟨ok.mod, ok.kind, ok.glob, ok.blt, ok.above, ok.inj, ok.has, ok.cab, ok.hd, ok.frames, ok.stk, ok.exf, ok.bs, ok.bsz, ok.noex, ok.exfs, ok.funs, ok.frf⟩
theorem Cx.Ok.unwish {X : Cx} {E : Value → Shared → Prop} (ok : (X.wish E).Ok) : X.Ok :=
  ⟨ok.mod, ok.kind, ok.glob, ok.blt, ok.above, ok.inj, ok.has, ok.cab, ok.hd, ok.frames, ok.stk, ok.exf, ok.bs, ok.bsz, ok.noex, ok.exfs, ok.funs, ok.frf⟩
section
variable {X : Cx} {pins : List (Addr × Obj)} {σ : St} {H : Hp} {s : Shared} {E : Value → Shared → Prop}
theorem Inv.wish (I : Inv X pins σ H s) (E : Value → Shared → Prop) : Inv (X.wish E) pins σ H s := ⟨I.ok.wish E, I.os, I.bare, I.base, I.loc, I.cell, I.free, I.freeC, I.pin, I.hok, I.len⟩
theorem Inv.unwish (I : Inv (X.wish E) pins σ H s) : Inv X pins σ H s := ⟨I.ok.unwish, I.os, I.bare, I.base, I.loc, I.cell, I.free, I.freeC, I.pin, I.hok, I.len⟩
theorem SP.unwish {D : Ends} {f : Flow} {s' : Shared} (h : SP (X.wish E) pins D f s') : SP X pins D f s' := by
  cases f with
  | next => obtain ⟨σ', H', I, q⟩ := h; exact ⟨σ', H', I.unwish, q⟩
  | brk => obtain ⟨σ', H', I, q⟩ := h; exact ⟨σ', H', I.unwish, q⟩
  | cont => obtain ⟨σ', H', I, q⟩ := h; exact ⟨σ', H', I.unwish, q⟩
  | ret u => obtain ⟨v, σ', H', I, r, q⟩ := h; exact ⟨v, σ', H', I.unwish, r, q⟩
theorem PSs.nox {st : List Stmt} {t : TS} (h : PSs X.nox st t) : PSs X st t := fun pins s σ H D I hw =>
  wpAny_mono (h pins s σ H D (I.wish _) hw) (fun _ _ q => q.unwish) fun _ _ z => False.elim z
end

/-! ### blocks and small statements -/
section
variable {X : Cx} {st : Stmt} {rest : List Stmt} {t u : TS} {e : Expr} {te : TE} {pos : Pos}
def tNext : TS := fun D σ H => D.nx σ H
def tSeq (t u : TS) : TS := fun D σ H => t { D with nx := u D } σ H
theorem pss_nil : PSs X [] tNext := fun _ _ σ H _ I h => wpAny_execs_nil ⟨σ, H, I, h⟩
theorem pss_cons (h1 : PS X st t) (h2 : PSs X rest u) : PSs X (st :: rest) (tSeq t u) := by
  intro pins s σ H D I h
  refine wpAny_execs_cons (thn (h1 pins s σ H { D with nx := u D } I h) fun f s1 q => ?_)
  cases f with
  | next =>
    obtain ⟨σ', H', I', q⟩ := q
    exact h2 pins s1 σ' H' D I' q
  | ret v => exact q
  | brk => exact q
  | cont => exact q
theorem pss_one (h1 : PS X st t) : PSs X [st] t := by
  intro pins s σ H D I h
  refine wpAny_execs_cons (thn (h1 pins s σ H D I h) fun f s1 q => ?_)
  cases f with
  | next => exact wpAny_execs_nil q
  | ret v => exact q
  | brk => exact q
  | cont => exact q
/-- in a def's body nothing is shown -/
theorem Inv.quiet {pins : List (Addr × Obj)} {σ : St} {H : Hp} {s : Shared} (I : Inv X pins σ H s) : interactive X.env = false := by simp [interactive, I.ok.kind]
/-- an expression whose value is dropped -/
def tDrop (te : TE) : TS := fun D σ H => te σ H fun _ H1 => D.nx σ H1
theorem ps_expr (he : PE X e te) (hs : swapsWith e none pos.line X.env = pure false := by rfl) : PS X (.Expr e pos) (tDrop te) := by
  intro pins s σ H D I h
  exact wpAny_Expr_any (thn (he pins s σ H _ I h) fun v s1 ⟨x, H1, I1, r1, q1⟩ => ⟨σ, H1, I1, q1⟩) I.quiet hs
def tRet (te : TE) : TS := fun D σ H => te σ H D.rt
theorem ps_ret (he : PE X e te) : PS X (.Return (some e) pos) (tRet te) := by
  intro pins s σ H D I h
  exact wpAny_Return_some (thn (he pins s σ H _ I h) fun v s1 ⟨x, H1, I1, r1, q1⟩ => ⟨x, σ, H1, I1, r1, q1⟩)
def tIfS (c : TT) (t u : TS) : TS := fun D σ H => c σ H fun b H1 => if b = true then t D σ H1 else u D σ H1
theorem ps_if {c : Expr} {a b : List Stmt} {tc : TT} (hc : PT X c tc) (ha : PSs X a t) (hb : PSs X b u) : PS X (.If c a b pos) (tIfS tc t u) := by
  intro pins s σ H D I h
  refine wpAny_If (thn (hc pins s σ H _ I h) fun d s1 ⟨H1, I1, q1⟩ => ?_)
  cases d with
  | true => exact ha pins s1 σ H1 D I1 q1
  | false => exact hb pins s1 σ H1 D I1 q1
end

/-! ### targets -/
abbrev TG := V → St → Hp → (St → Hp → Prop) → Prop
def PG (X : Cx) (target : Expr) (t : TG) : Prop :=
  ∀ (pins : List (Addr × Obj)) (s : Shared) (σ : St) (H : Hp) (v : V) (u : Value) (Q : St → Hp → Prop), Inv X pins σ H s → RelV v u → t v σ H Q →
    wpAny (model X.prog X.w) X.A (assign target X.env u) (fun _ s' => ∃ σ' H', Inv X pins σ' H' s' ∧ Q σ' H') X.xe s
section
variable {X : Cx} {pos : Pos}
def gName (i : Nat) : TG := fun v σ H Q => Q (σ.set i (some v)) H
theorem pg_name {i : Nat} {x : Str} (hN : X.N.Nodup) (hi : X.N[i]? = some x) (hx : Loc X.env.scope x) (hf : X.fn x = true ∨ X.env.scope.names.lookup x = some .local := by first | exact .inl rfl | exact .inr rfl | assumption) : PG X (.Name x pos) (gName i) := by
  intro pins s σ H v u Q I r h
  exact wpAny_assign_Name (store_ok I hN hi hx r (fun s' I' => ⟨_, H, I', h⟩) hf)
/-- target = value -/
def tAsg (te : TE) (g : TG) : TS := fun D σ H => te σ H fun x H1 => g x σ H1 D.nx
/-- name = value -/
theorem ps_set {i : Nat} {x : Str} {e : Expr} {te : TE} {pos' : Pos} (hN : X.N.Nodup) (hi : X.N[i]? = some x) (hx : Loc X.env.scope x) (he : PE X e te) (hs : swapsWith e (some (.Name x pos')) pos.line X.env = pure false := by rfl) (hf : X.fn x = true ∨ X.env.scope.names.lookup x = some .local := by first | exact .inl rfl | exact .inr rfl | assumption) :
    PS X (.Assign [.Name x pos'] e pos) (tAsg te (gName i)) := by
  intro pins s σ H D I h
  refine wpAny_Assign_Name (thn (he pins s σ H _ I h) fun v s1 ⟨y, H1, I1, r1, q1⟩ => ?_) hs
  exact store_ok I1 hN hi hx r1 (fun s2 I2 => ⟨_, H1, I2, q1⟩) hf
end

/-! ### while -/
section
variable {X : Cx} {pos : Pos}
/-- the invariant W with its measure -/
def tWhile (c : TT) (tb : TS) : TS := fun D σ H => ∃ W : Nat → St → Hp → Prop, (∃ m, W m σ H) ∧ ∀ m σ H, W m σ H →
  c σ H fun b H1 => if b = true then ∃ N : St → Hp → Prop, (∀ σ' H', N σ' H' → ∃ m', m' < m ∧ W m' σ' H') ∧ tb { D with nx := N, ct := N, bk := D.nx } σ H1 else D.nx σ H1
theorem ps_while {c : Expr} {body : List Stmt} {tc : TT} {tb : TS} (hp : PassesOwn (model X.prog X.w) X.A X.env X.xe) (hc : PT X c tc) (hb : PSs X body tb) : PS X (.While c body [] pos) (tWhile tc tb) := by
  intro pins s σ H D I h
  obtain ⟨W, ⟨m0, w0⟩, turn⟩ := h
  refine wpAny_While (codeAny_whileLoop (fun n s' => ∃ σ' H', Inv X pins σ' H' s' ∧ W n σ' H') ?_ m0 ⟨σ, H, I, w0⟩)
  rintro n s1 ⟨σ1, H1, I1, w1⟩
  refine wpAny_passesOwn hp (thn (hc pins s1 σ1 H1 _ I1 (turn n σ1 H1 w1)) fun b s2 ⟨H2, I2, q2⟩ => ?_)
  cases b with
  | true =>
    obtain ⟨N, hN, q2⟩ := q2
    rw [if_pos rfl]
    refine wpAny_passesOwn hp (thn (hb pins s2 σ1 H2 _ I2 q2) fun f s3 q3 => ?_)
    cases f with
    | next =>
      obtain ⟨σ3, H3, I3, n3⟩ := q3
      obtain ⟨m', hm, w3⟩ := hN σ3 H3 n3
      exact ⟨m', hm, σ3, H3, I3, w3⟩
    | cont =>
      obtain ⟨σ3, H3, I3, n3⟩ := q3
      obtain ⟨m', hm, w3⟩ := hN σ3 H3 n3
      exact ⟨m', hm, σ3, H3, I3, w3⟩
    | brk => exact q3
    | ret v => exact q3
  | false =>
    rw [if_neg Bool.false_ne_true]
    exact wpAny_execs_nil ⟨σ1, H2, I2, q2⟩
end

/-! ### what a loop or a comprehension walks -/
/-- at turn i: it yields x (the heap may grow), or it stops -/
structure It where
  go : Nat → Hp → Prop
  yld : Nat → Hp → V → Hp → Prop
  stop : Nat → Hp → Prop
/-- the iterator's own objects may turn: they are not the frame's, not pinned, younger than the entry (or a comprehension's own) -/
def FpOk (X : Cx) (pins : List (Addr × Obj)) (H : Hp) (b : Addr) : Prop :=
  H b = none ∧ b ≠ X.env.locals ∧ b ∉ X.fs ∧ (b ∈ X.ex ∨ X.s_0.heap.objs.size ≤ b) ∧ (∀ x c, X.env.cells.lookup x = some c → c ≠ b) ∧ ∀ p ∈ X.pn ++ pins, p.1 ≠ b
theorem Inv.fpOk {X : Cx} {pins : List (Addr × Obj)} {σ : St} {H H' : Hp} {s : Shared} {b : Addr} (I : Inv X pins σ H s) (hb : s.heap.objs.size ≤ b) (hn : H' b = none) : FpOk X pins H' b := by
  refine ⟨hn, Nat.ne_of_gt (Nat.lt_of_lt_of_le I.lt hb), I.nofs hb, .inr (Nat.le_trans I.sz hb), fun x c e z => ?_, fun p hp z => ?_⟩
  · obtain ⟨v, q⟩ := I.cell x c e
    exact absurd (Nat.lt_of_lt_of_le q.lt (by rw [z]; exact hb)) (Nat.lt_irrefl _)
  · exact absurd (Nat.lt_of_lt_of_le (Heap.lt_size (I.pin p hp).1) (by rw [z]; exact hb)) (Nat.lt_irrefl _)
structure Turn (P : Program) (w : World) (K : PySem.W.Frag) (tg : Expr) (J : It) (fp : List Addr) (it : Addr) (tn : Nat → Heap → Prop) : Prop where
  mem : it ∈ fp
  obj : ∀ i h, tn i h → ∀ b ∈ fp, ∃ o, h.get? b = some o ∧ ∀ v, o.data ≠ .cell v
  keep : ∀ i h h', tn i h → (∀ b ∈ fp, ∀ o, h.get? b = some o → h'.get? b = some o) → tn i h'
  item : ∀ (X : Cx), X.prog = P → X.w = w → X.K = K → X.calm = true → ∀ (i : Nat) (pins : List (Addr × Obj)) (s : Shared) (σ : St) (H : Hp) (E : Value → Shared → Prop), Inv X pins σ H s → (∀ b ∈ fp, FpOk X pins H b) → tn i s.heap → J.go i H →
    wpAny (model P w) X.A (pyNext (.ref it)) (fun r s1 => ∃ u, r = some u ∧
      wpAny (model P w) X.A (letOwnedTupleGo tg (.ref it) u) (fun _ s2 => ∃ x H', Inv X pins σ H' s2 ∧ RelV x u ∧ J.yld i H x H' ∧ tn (i + 1) s2.heap ∧ ∀ b ∈ fp, H' b = none) E s1) E s
  done : ∀ (X : Cx), X.prog = P → X.w = w → X.K = K → X.calm = true → ∀ (i : Nat) (pins : List (Addr × Obj)) (s : Shared) (σ : St) (H : Hp) (E : Value → Shared → Prop), Inv X pins σ H s → (∀ b ∈ fp, FpOk X pins H b) → tn i s.heap → J.stop i H →
    wpAny (model P w) X.A (pyNext (.ref it)) (fun r s1 => r = none ∧ Inv X pins σ H s1) E s
  self : ∀ (A : Around) (i : Nat) (s : Shared) (Q : Value → Shared → Prop) (E : Value → Shared → Prop), tn i s.heap → Q (.ref it) s → wpAny (model P w) A (pyIter (.ref it)) Q E s
abbrev TI := St → Hp → (It → Hp → Prop) → Prop
/-- an iterator has come -/
def PIE (X : Cx) (pins : List (Addr × Obj)) (σ : St) (tg : Expr) (R : It → Hp → Prop) (itv : Value) (s2 : Shared) : Prop :=
  ∃ (it : Addr) (fp : List Addr) (tn : Nat → Heap → Prop) (J : It) (H' : Hp), itv = .ref it ∧ Inv X pins σ H' s2 ∧ Turn X.prog X.w X.K tg J fp it tn ∧ tn 0 s2.heap ∧ (∀ b ∈ fp, FpOk X pins H' b) ∧ R J H'
def PI (X : Cx) (tg iter : Expr) (wi : TI) : Prop :=
  ∀ (pins : List (Addr × Obj)) (s : Shared) (σ : St) (H : Hp) (R : It → Hp → Prop), Inv X pins σ H s → wi σ H R →
    wpAny (model X.prog X.w) X.A (eval iter X.env) (fun v s1 => wpAny (model X.prog X.w) X.A (pyIter v) (PIE X pins σ tg R) X.xe s1) X.xe s

/-- the step ahead of the store is nothing for an iterator that keeps no tuple -/
theorem go_of {M : Model} {A : Around} {E : Value → Shared → Prop} {s : Shared} {tg : Expr} {it : Addr} {u : Value} {o : Obj} {n : String} {vs : Array Value} {Q : Unit → Shared → Prop} (ho : s.heap.get? it = some o) (hc : o.cls = .type n) (hd : o.data = .fields vs)
    (hn : ["enumerate", "zip", "dict_itemiterator", "dict_reverseitemiterator", "odict_iterator", "itertools.zip_longest", "itertools.pairwise"].contains n = false) (hQ : Q () s) : wpAny M A (letOwnedTupleGo tg (.ref it) u) Q E s := by
  unfold letOwnedTupleGo
  cases tg <;> first
    | exact wpAny_pure hQ
    | (cases u <;> first
        | exact wpAny_pure hQ
        | (refine wpAny_bind (wpAny_load ho ?_)
           rw [hc, hd]
           show wpAny M A (if (["enumerate", "zip", "dict_itemiterator", "dict_reverseitemiterator", "odict_iterator", "itertools.zip_longest", "itertools.pairwise"].contains n && vs[0]? == some (rawInt _)) = true then _ else _) Q E s
           rw [if_neg (by intro h; rw [hn, Bool.false_and] at h; cases h)]
           exact wpAny_pure hQ))

def Itt (K : PySem.W.Frag) (a : Addr) : It :=
  ⟨fun i H => ∃ xs x, SqT K H a xs ∧ xs[i]? = some x, fun i H x H' => H' = H ∧ ∀ xs, SqT K H a xs → xs[i]? = some x, fun i H => ∃ xs, SqT K H a xs ∧ xs.length ≤ i⟩
/-- lo, lo + 1, .. (n of them) -/
def Itr (lo : Int) (n : Nat) : It := ⟨fun i _ => i < n, fun i H x H' => H' = H ∧ x = .int (lo + i), fun i _ => n ≤ i⟩
theorem turn_tuple {P : Program} {w : World} {K : PySem.W.Frag} {tg : Expr} (a it : Addr) : Turn P w K tg (Itt K a) [it] it (fun i h => h.IsTupleIter it a i) where
  mem := by simp
  obj := fun i h st b hb => by
    have e : b = it := by simpa using hb
    subst e
    obtain ⟨o, e, c, d⟩ := st
    exact ⟨o, e, fun v z => by rw [d] at z; cases z⟩
  keep := fun i h h' st k => st.at fun o e => k it (by simp) o e
  item := by
    intro X hP hw hK hc i pins s σ H E I hf st hg
    subst hP hw hK
    obtain ⟨xs, x, hq, hx⟩ := hg
    obtain ⟨its, rv, p, hz⟩ := I.tuple hq
    obtain ⟨u, hu, ru⟩ := rv.get hx
    obtain ⟨f0, f1, f2, f3, f4, f5⟩ := hf it (by simp)
    refine wpAny_pyNext_tuple_item st (show s.heap.IsTuple a its.toArray from p) (x := u) (by simpa using hu) fun h' st' sb => ?_
    have I1 : Inv X pins σ H { s with heap := h' } := I.turned (t' := s.toks) (fun b o hb e => (sb.2 b hb).trans e) f0 f1 f3 f4 f5
    obtain ⟨o, e, c, d⟩ := id st'
    exact ⟨u, rfl, go_of (s := { s with heap := h' }) e c d (by decide) ⟨x, H, I1, ru, ⟨rfl, fun ys hy => by rw [I.tuple_inj hy hq]; exact hx⟩, st', fun b hb => (hf b hb).1⟩⟩
  done := by
    intro X hP hw hK hc i pins s σ H E I hf st hg
    subst hP hw hK
    obtain ⟨xs, hq, hx⟩ := hg
    obtain ⟨its, rv, p, hz⟩ := I.tuple hq
    obtain ⟨f0, f1, f2, f3, f4, f5⟩ := hf it (by simp)
    have hl := rv.length
    exact wpAny_pyNext_tuple_end (I.ok.hd hc) st (show s.heap.IsTuple a its.toArray from p) (by simp; omega) fun h' eb => ⟨rfl, I.turned (t' := s.toks) (fun b o hb e => eb b o hb e) f0 f1 f3 f4 f5⟩
  self := fun _ _ _ _ _ st h => wpAny_pyIter_tupleiter st h
theorem turn_range {P : Program} {w : World} {K : PySem.W.Frag} {tg : Expr} (it : Addr) (lo : Int) (n : Nat) : Turn P w K tg (Itr lo n) [it] it (fun i h => IsRangeIter h it (lo + (i : Nat) * 1) ((n : Int) - (i : Nat)) 1) where
  mem := by simp
  obj := fun i h st b hb => by
    have e : b = it := by simpa using hb
    subst e
    exact ⟨_, st, fun v z => by
      have z' : Data.fields _ = Data.cell v := z
      cases z'⟩
  keep := fun i h h' st k => k it (by simp) _ st
  item := by
    intro X hP hw hK hc i pins s σ H E I hf st hg
    subst hP hw hK
    obtain ⟨f0, f1, f2, f3, f4, f5⟩ := hf it (by simp)
    have W := Walks.range (prog := X.prog) (w := X.w) (I.ok.hd hc) it lo 1 n
    refine W.item i s _ _ hg st fun v h' tk hv st' kk => ?_
    obtain ⟨t, rfl⟩ := hv
    have I1 : Inv X pins σ H { s with heap := h', toks := tk } := I.turned (fun b o hb e => kk b o (by simpa using hb) e) f0 f1 f3 f4 f5
    refine ⟨_, rfl, go_of (s := { s with heap := h', toks := tk }) (n := "range_iterator") st' rfl rfl (by decide) ⟨.int (lo + i), H, I1, ⟨t, ?_⟩, ⟨rfl, rfl⟩, st', fun b hb => (hf b hb).1⟩⟩
    rw [Int.mul_one]
  done := by
    intro X hP hw hK hc i pins s σ H E I hf st hg
    subst hP hw hK
    obtain ⟨f0, f1, f2, f3, f4, f5⟩ := hf it (by simp)
    exact wpAny_pyNext_range_end (I.ok.hd hc) st (by have : n ≤ i := hg; omega) fun h' eb => ⟨rfl, I.turned (t' := s.toks) (fun b o hb e => eb b o hb e) f0 f1 f3 f4 f5⟩
  self := fun _ _ _ _ _ st h => wpAny_pyIter_rangeiter st h
end L2

namespace L2
open PySem PySem.Spec PyProof.Rows
section
variable {X : Cx} {tg : Expr}
def iTup (K : PySem.W.Frag) (tl : TE) : TI := fun σ H R => tl σ H fun x H1 => ∃ a, x = .ref a ∧ (∃ xs, SqT K H1 a xs) ∧ R (Itt K a) H1
theorem pi_tup {l : Expr} {tl : TE} (hl : PE X l tl) : PI X tg l (iTup X.K tl) := by
  intro pins s σ H R I h
  refine thn (hl pins s σ H _ I h) fun v s1 ⟨x, H1, I1, r1, q1⟩ => ?_
  obtain ⟨a, e, ⟨xs, hq⟩, q⟩ := q1
  subst e
  cases r1
  obtain ⟨its, rv, p, hz⟩ := I1.tuple hq
  refine wpAny_pyIter_tuple (show s1.heap.IsTuple a its.toArray from p) ?_
  refine ⟨s1.heap.objs.size, [s1.heap.objs.size], _, _, H1, rfl, I1.kept (t' := s1.toks) fun b o e => Heap.get?_push_of_some _ e, turn_tuple a _, ⟨_, Heap.get?_push_size _ rfl, rfl, rfl⟩, fun b hb => ?_, q⟩
  have e : b = s1.heap.objs.size := by simpa using hb
  subst e
  exact I1.fpOk (Nat.le_refl _) (I1.hok.fresh (Nat.le_refl _))
/-- a range object just made, walked -/
theorem range_it {pins : List (Addr × Obj)} {σ : St} {H : Hp} {s : Shared} {R : It → Hp → Prop} {E : Value → Shared → Prop} {lo hi : Int} {t u v : Tok} {tk : Nat} (I : Inv X pins σ H s) (h1 : -(2 ^ 62) ≤ lo) (h2 : lo < 2 ^ 62) (h3 : -(2 ^ 62) ≤ hi) (h4 : hi < 2 ^ 62)
    (q : R (Itr lo (hi - lo).toNat) H) : wpAny (model X.prog X.w) X.A (pyIter (.ref s.heap.objs.size)) (PIE X pins σ tg R) E { s with heap := s.heap.push { cls := .type "range", data := .fields #[.int lo t, .int hi u, .int 1 v] }, toks := tk } := by
  refine wpAny_pyIter_range (IsRange.new ..) (small_one h1 h2 h3 h4) ?_
  have I1 : Inv X pins σ H { s with heap := s.heap.push { cls := .type "range", data := .fields #[.int lo t, .int hi u, .int 1 v] }, toks := tk } := I.kept fun b o e => Heap.get?_push_of_some _ e
  refine ⟨(s.heap.push { cls := .type "range", data := .fields #[.int lo t, .int hi u, .int 1 v] }).objs.size, [(s.heap.push { cls := .type "range", data := .fields #[.int lo t, .int hi u, .int 1 v] }).objs.size], _, _, H, rfl,
    I1.kept (t' := tk) fun b o e => Heap.get?_push_of_some _ e, turn_range _ lo (hi - lo).toNat, ?_, fun b hb => ?_, q⟩
  · have e1 : lo + ((0 : Nat) : Int) * 1 = lo := by simp
    have e2 : (((hi - lo).toNat : Nat) : Int) - ((0 : Nat) : Int) = Builtin.Range.rangeSize lo hi 1 := by rw [rangeSize_one]; split <;> omega
    show IsRangeIter _ _ (lo + ((0 : Nat) : Int) * 1) ((((hi - lo).toNat : Nat) : Int) - ((0 : Nat) : Int)) 1
    rw [e1, e2]
    exact Heap.get?_push_size _ rfl
  · have e : b = (s.heap.push { cls := .type "range", data := .fields #[.int lo t, .int hi u, .int 1 v] }).objs.size := by simpa using hb
    subst e
    exact I1.fpOk (Nat.le_refl _) (I1.hok.fresh (Nat.le_refl _))
def iRng1 (ta : TA) : TI := fun σ H R => ta σ H fun vs H1 => ∃ j : Int, vs = [.int j] ∧ -(2 ^ 62) ≤ j ∧ j < 2 ^ 62 ∧ R (Itr 0 j.toNat) H1
theorem pi_range1 {a : Expr} {ta : TA} {p pos : Pos} (hg : Gl X "range") (hm : X.mg "range" = none) (ha : PA X [a] ta) (hs : starEach [a] X.env = [(false, eval a X.env)] := by rfl) : PI X tg (.Call (.Name "range" p) [a] [] pos) (iRng1 ta) := by
  intro pins s σ H R I h
  refine Call_ (ld_blt I hg hm boot_range (PyProof.Rows.callWith_type1 (thn (ha pos pins s σ H _ I h) fun us s1 ⟨vs, H1, I1, r1, q1⟩ => ?_) hs rfl))
  obtain ⟨j, e, q1, q2, q⟩ := q1
  subst e
  cases r1 with
  | cons r rr =>
    cases rr
    obtain ⟨t, rfl⟩ := r
    exact call_range_1 (range_it I1 (by omega) (by omega) q1 q2 (by simpa using q))

/-! ### for -/
/-- W: the invariant by the turn and a measure; N: what the body is to reach -/
def tFor (wi : TI) (g : TG) (tb : TS) : TS := fun D σ H => wi σ H fun J H1 => ∃ W : Nat → Nat → St → Hp → Prop, (∃ m, W 0 m σ H1) ∧ ∀ i m σ H, W i m σ H →
  (J.stop i H ∧ D.nx σ H) ∨ (J.go i H ∧ ∃ N : St → Hp → Prop, (∀ σ' H', N σ' H' → ∃ m', m' < m ∧ W (i + 1) m' σ' H') ∧ ∀ x H', J.yld i H x H' → g x σ H' fun σ2 H2 => tb { D with nx := N, ct := N, bk := D.nx } σ2 H2)
/-- the records at fp as they stand -/
def pinsAt (fp : List Addr) (h : Heap) : List (Addr × Obj) := fp.filterMap fun b => (h.get? b).map fun o => (b, o)
theorem mem_pinsAt {fp : List Addr} {h : Heap} {b : Addr} {o : Obj} (hb : b ∈ fp) (e : h.get? b = some o) : (b, o) ∈ pinsAt fp h := List.mem_filterMap.mpr ⟨b, hb, by rw [e]; rfl⟩
theorem of_pinsAt {fp : List Addr} {h : Heap} {p : Addr × Obj} (hp : p ∈ pinsAt fp h) : p.1 ∈ fp ∧ h.get? p.1 = some p.2 := by
  obtain ⟨b, hb, e⟩ := List.mem_filterMap.mp hp
  cases q : h.get? b with
  | none => rw [q] at e; cases e
  | some o =>
    rw [q] at e
    have e' : (b, o) = p := Option.some.inj e
    subst e'
    exact ⟨hb, q⟩
theorem Inv.pinned {pins : List (Addr × Obj)} {σ : St} {H : Hp} {s : Shared} {fp : List Addr} (I : Inv X pins σ H s) (hf : ∀ b ∈ fp, FpOk X pins H b) (ho : ∀ b ∈ fp, ∃ o, s.heap.get? b = some o ∧ ∀ v, o.data ≠ .cell v) : Inv X (pins ++ pinsAt fp s.heap) σ H s :=
  I.pins_of fun p hp => (List.mem_append.mp hp).elim (fun z => I.pin p (List.mem_append_right _ z)) fun z => by
    obtain ⟨hb, e⟩ := of_pinsAt z
    obtain ⟨f0, f1, f2, _⟩ := hf p.1 hb
    obtain ⟨o, e', d⟩ := ho p.1 hb
    rw [e] at e'; cases e'
    exact ⟨e, f0, f1, f2, d⟩
theorem Inv.unpinned {pins pl : List (Addr × Obj)} {σ : St} {H : Hp} {s : Shared} (I : Inv X (pins ++ pl) σ H s) : Inv X pins σ H s := I.pins_of fun p hp => I.pin p (List.mem_append_right _ (List.mem_append_left _ hp))
theorem ps_for {iter : Expr} {body : List Stmt} {wi : TI} {g : TG} {tb : TS} {pos : Pos} (hp : PassesOwn (model X.prog X.w) X.A X.env X.xe) (hc : X.calm = true) (hi : PI X tg iter wi) (hg : PG X tg g) (hb : PSs X body tb)
    (hs : ∀ x, foldedSetIterable iter X.env x = pure x := by intro _; rfl) : PS X (.For tg iter body [] pos) (tFor wi g tb) := by
  intro pins s σ H D I h
  refine wpAny_For (thn (hi pins s σ H _ I h) fun v s1 h1 => thn h1 fun itv s2 h2 => ?_) hs
  obtain ⟨it, fp, tn, J, H2, e, I2, T, st2, f2, W, ⟨m0, w0⟩, turn⟩ := h2
  subst e
  -- what stays true of the iterator's objects through the loop
  have stat : ∀ {H' : Hp}, (∀ b ∈ fp, H' b = none) → ∀ b ∈ fp, FpOk X pins H' b := fun hn b hb => ⟨hn b hb, (f2 b hb).2⟩
  refine codeAny_forLoop_any (fun n s' => ∃ i σ' H', Inv X pins σ' H' s' ∧ tn i s'.heap ∧ (∀ b ∈ fp, H' b = none) ∧ W i n σ' H') ?_ m0 ⟨0, σ, H2, I2, st2, fun b hb => (f2 b hb).1, w0⟩
  rintro n s3 ⟨i, σ3, H3, I3, st3, fr3, w3⟩
  rcases turn i n σ3 H3 w3 with ⟨stop, qn⟩ | ⟨go, N, hN, step⟩
  · refine wpAny_passesOwn hp (thn (T.done X rfl rfl rfl hc i pins s3 σ3 H3 X.xe I3 (stat fr3) st3 stop) fun r s4 ⟨hr, I4⟩ => ?_)
    subst hr
    exact wpAny_execs_nil ⟨σ3, H3, I4, qn⟩
  · refine wpAny_passesOwn hp (thn (T.item X rfl rfl rfl hc i pins s3 σ3 H3 X.xe I3 (stat fr3) st3 go) fun r s4 ⟨u, hr, h4⟩ => ?_)
    subst hr
    refine wpAny_passesOwn hp (thn h4 fun _ s5 ⟨x, H5, I5, r5, y5, st5, fr5⟩ => ?_)
    have I5' := I5.pinned (stat fr5) (T.obj _ _ st5)
    refine wpAny_passesOwn hp (thn (hg _ s5 σ3 H5 x u _ I5' r5 (step x H5 y5)) fun _ s6 ⟨σ6, H6, I6, q6⟩ => ?_)
    refine wpAny_passesOwn hp (thn (hb _ s6 σ6 H6 _ I6 q6) fun f s7 q7 => ?_)
    have again : ∀ {σ7 : St} {H7 : Hp}, Inv X (pins ++ pinsAt fp s5.heap) σ7 H7 s7 → N σ7 H7 → ∃ m, m < n ∧ ∃ i σ' H', Inv X pins σ' H' s7 ∧ tn i s7.heap ∧ (∀ b ∈ fp, H' b = none) ∧ W i m σ' H' := fun {σ7 H7} I7 n7 => by
      obtain ⟨m', hm, w7⟩ := hN σ7 H7 n7
      refine ⟨m', hm, i + 1, σ7, H7, I7.unpinned, T.keep _ _ _ st5 fun b hb o e => (I7.pin (b, o) (List.mem_append_right _ (List.mem_append_right _ (mem_pinsAt hb e)))).1, fun b hb => ?_, w7⟩
      obtain ⟨o, e, d⟩ := T.obj _ _ st5 b hb
      exact (I7.pin (b, o) (List.mem_append_right _ (List.mem_append_right _ (mem_pinsAt hb e)))).2.1
    cases f with
    | next => obtain ⟨σ7, H7, I7, n7⟩ := q7; exact again I7 n7
    | cont => obtain ⟨σ7, H7, I7, n7⟩ := q7; exact again I7 n7
    | brk => obtain ⟨σ7, H7, I7, q7⟩ := q7; exact ⟨σ7, H7, I7.unpinned, q7⟩
    | ret v => obtain ⟨x7, σ7, H7, I7, r7, q7⟩ := q7; exact ⟨x7, σ7, H7, I7.unpinned, r7, q7⟩
end

/-! ### the forms one uses -/
theorem for_tup {K : PySem.W.Frag} {a : Addr} {xs : List V} {g : TG} {tb : TS} {D : Ends} {σ : St} {H : Hp} (Pv : Nat → St → Hp → Prop) (h0 : Pv 0 σ H) (hl : ∀ i σ H, i ≤ xs.length → Pv i σ H → SqT K H a xs)
    (hs : ∀ i x σ H, xs[i]? = some x → Pv i σ H → g x σ H fun σ2 H2 => tb { D with nx := Pv (i + 1), ct := Pv (i + 1), bk := D.nx } σ2 H2) (hd : ∀ σ H, Pv xs.length σ H → D.nx σ H) :
    ∃ W : Nat → Nat → St → Hp → Prop, (∃ m, W 0 m σ H) ∧ ∀ i m σ H, W i m σ H →
      ((Itt K a).stop i H ∧ D.nx σ H) ∨ ((Itt K a).go i H ∧ ∃ N : St → Hp → Prop, (∀ σ' H', N σ' H' → ∃ m', m' < m ∧ W (i + 1) m' σ' H') ∧ ∀ x H', (Itt K a).yld i H x H' → g x σ H' fun σ2 H2 => tb { D with nx := N, ct := N, bk := D.nx } σ2 H2) := by
  refine ⟨fun i m σ H => m = xs.length - i ∧ i ≤ xs.length ∧ Pv i σ H, ⟨xs.length, by simp, Nat.zero_le _, h0⟩, ?_⟩
  rintro i m σ H ⟨rfl, hi, p⟩
  have q := hl i σ H hi p
  by_cases hlt : i < xs.length
  · refine .inr ⟨⟨xs, xs[i], q, by simp [hlt]⟩, Pv (i + 1), fun σ' H' p' => ⟨xs.length - (i + 1), by omega, rfl, hlt, p'⟩, fun x H' y => ?_⟩
    obtain ⟨e, y⟩ := y
    subst e
    exact hs i x σ _ (y xs q) p
  · have e : i = xs.length := by omega
    subst e
    exact .inl ⟨⟨xs, q, Nat.le_refl _⟩, hd σ H p⟩
theorem for_range {lo : Int} {n : Nat} {g : TG} {tb : TS} {D : Ends} {σ : St} {H : Hp} (Pv : Nat → St → Hp → Prop) (h0 : Pv 0 σ H)
    (hs : ∀ i σ H, i < n → Pv i σ H → g (.int (lo + i)) σ H fun σ2 H2 => tb { D with nx := Pv (i + 1), ct := Pv (i + 1), bk := D.nx } σ2 H2) (hd : ∀ σ H, Pv n σ H → D.nx σ H) :
    ∃ W : Nat → Nat → St → Hp → Prop, (∃ m, W 0 m σ H) ∧ ∀ i m σ H, W i m σ H →
      ((Itr lo n).stop i H ∧ D.nx σ H) ∨ ((Itr lo n).go i H ∧ ∃ N : St → Hp → Prop, (∀ σ' H', N σ' H' → ∃ m', m' < m ∧ W (i + 1) m' σ' H') ∧ ∀ x H', (Itr lo n).yld i H x H' → g x σ H' fun σ2 H2 => tb { D with nx := N, ct := N, bk := D.nx } σ2 H2) := by
  refine ⟨fun i m σ H => m = n - i ∧ i ≤ n ∧ Pv i σ H, ⟨n, by simp, Nat.zero_le _, h0⟩, ?_⟩
  rintro i m σ H ⟨rfl, hi, p⟩
  by_cases hlt : i < n
  · refine .inr ⟨hlt, Pv (i + 1), fun σ' H' p' => ⟨n - (i + 1), by omega, rfl, hlt, p'⟩, fun x H' y => ?_⟩
    obtain ⟨e, y⟩ := y
    subst e y
    exact hs i σ _ hlt p
  · have e : i = n := by omega
    subst e
    exact .inl ⟨Nat.le_refl _, hd σ H p⟩
/-- while, by a word and a measure of the state -/
theorem while_by {c : TT} {tb : TS} {D : Ends} {σ : St} {H : Hp} (Pv : St → Hp → Prop) (μ : St → Hp → Nat) (h0 : Pv σ H)
    (hs : ∀ σ H, Pv σ H → c σ H fun b H1 => if b = true then tb { D with nx := fun σ' H' => Pv σ' H' ∧ μ σ' H' < μ σ H, ct := fun σ' H' => Pv σ' H' ∧ μ σ' H' < μ σ H, bk := D.nx } σ H1 else D.nx σ H1)
    (mono : ∀ σ H Q Q', (∀ b H1, Q b H1 → Q' b H1) → c σ H Q → c σ H Q') : tWhile c tb D σ H := by
  refine ⟨fun m σ H => m = μ σ H ∧ Pv σ H, ⟨_, rfl, h0⟩, ?_⟩
  rintro m σ H ⟨rfl, p⟩
  refine mono σ H _ _ (fun b H1 q => ?_) (hs σ H p)
  cases b with
  | true => exact ⟨_, fun σ' H' ⟨p', l⟩ => ⟨_, l, rfl, p'⟩, q⟩
  | false => exact q
end L2

namespace L2
open PySem PySem.Spec PyProof.Rows

abbrev R2 := V → V → Hp → VK → Prop
/-- a two-place operation on values: f is binaryOp op, inplaceOp op or compareOp op -/
def OpR (X : Cx) (f : Value → Value → Sem Value) (r : R2) : Prop :=
  ∀ (pins : List (Addr × Obj)) (s : Shared) (σ : St) (H : Hp) (x y : V) (v u : Value) (Q : VK), Inv X pins σ H s → RelV x v → RelV y u → r x y H Q →
    wpAny (model X.prog X.w) X.A (f v u) (EP X pins σ Q) X.xe s
/-- a one-place operation -/
def UnR (X : Cx) (f : Value → Sem Value) (r : V → Hp → VK → Prop) : Prop :=
  ∀ (pins : List (Addr × Obj)) (s : Shared) (σ : St) (H : Hp) (x : V) (v : Value) (Q : VK), Inv X pins σ H s → RelV x v → r x H Q →
    wpAny (model X.prog X.w) X.A (f v) (EP X pins σ Q) X.xe s
/-- a call of a value that is known (a builtin, a type) with values -/
def CallR (X : Cx) (f : Value) (r : List V → Hp → VK → Prop) : Prop :=
  ∀ (pins : List (Addr × Obj)) (s : Shared) (σ : St) (H : Hp) (xs : List V) (us : List Value) (Q : VK), Inv X pins σ H s → Vals xs us → r xs H Q →
    wpAny (model X.prog X.w) X.A (call f us) (EP X pins σ Q) X.xe s

def tOp (r : R2) (ta tb : TE) : TE := fun σ H Q => ta σ H fun x H1 => tb σ H1 fun y H2 => r x y H2 Q
def tUn (r : V → Hp → VK → Prop) (ta : TE) : TE := fun σ H Q => ta σ H fun x H1 => r x H1 Q
/-- ints in, under C, and a value out -/
def rI (C : Int → Int → Prop) (g : Int → Int → V) : R2 := fun x y H Q => ∃ i j, x = .int i ∧ y = .int j ∧ C i j ∧ Q (g i j) H
def rI0 (g : Int → Int → V) : R2 := fun x y H Q => ∃ i j, x = .int i ∧ y = .int j ∧ Q (g i j) H
def rU (g : Int → V) : V → Hp → VK → Prop := fun x H Q => ∃ i, x = .int i ∧ Q (g i) H

section
variable {X : Cx} {a b c : Expr} {ta tb tc : TE} {pos : Pos}

theorem binT (ha : PE X a ta) (hb : PE X b tb) {pins : List (Addr × Obj)} {s : Shared} {σ : St} {H : Hp} {R : V → V → Hp → Prop} (I : Inv X pins σ H s)
    (h : ta σ H fun x H1 => tb σ H1 fun y H2 => R x y H2) {Q : Value → Shared → Prop} {f : Value → Value → Sem Value}
    (hf : ∀ v u s2 x y H2, Inv X pins σ H2 s2 → RelV x v → RelV y u → R x y H2 → wpAny (model X.prog X.w) X.A (f v u) Q X.xe s2) :
    wpAny (model X.prog X.w) X.A (eval a X.env) (fun v s₁ => wpAny (model X.prog X.w) X.A (eval b X.env) (fun u s₂ => wpAny (model X.prog X.w) X.A (f v u) Q X.xe s₂) X.xe s₁) X.xe s := by
  refine thn (ha pins s σ H _ I h) fun v s1 ⟨x, H1, I1, r1, q1⟩ => ?_
  refine thn (hb pins s1 σ H1 _ I1 q1) fun u s2 ⟨y, H2, I2, r2, q2⟩ => ?_
  exact hf v u s2 x y H2 I2 r1 r2 q2

theorem pe_op {op : Operator} {r : R2} (ho : OpR X (binaryOp op) r) (ha : PE X a ta) (hb : PE X b tb) : PE X (.BinOp a op b pos) (tOp r ta tb) := by
  intro pins s σ H Q I h
  exact wpAny_BinOp (binT ha hb I h fun v u s2 x y H2 I2 rx ry q => ho pins s2 σ H2 x y v u Q I2 rx ry q)
theorem pe_un {op : UnaryOp} {r : V → Hp → VK → Prop} (ho : UnR X (unaryOp op) r) (ha : PE X a ta) : PE X (.UnaryOp op a pos) (tUn r ta) := by
  intro pins s σ H Q I h
  exact UnaryOp_ (thn (ha pins s σ H _ I h) fun v s1 ⟨x, H1, I1, r1, q1⟩ => ho pins s1 σ H1 x v Q I1 r1 q1)

/-! ### ints -/
theorem opI {f : Value → Value → Sem Value} {C : Int → Int → Prop} {g : Int → Int → Int}
    (rule : ∀ (i j : Int) (t u : Tok) (s : Shared) (Q : Value → Shared → Prop) (E : Value → Shared → Prop), C i j → Q (.int (g i j) s.toks) { s with toks := s.toks + 1 } → wpAny (model X.prog X.w) X.A (f (.int i t) (.int j u)) Q E s) :
    OpR X f (rI C fun i j => .int (g i j)) := by
  intro pins s σ H x y v u Q I rx ry h
  obtain ⟨i, j, rfl, rfl, hc, q⟩ := h
  obtain ⟨t, rfl⟩ := rx
  obtain ⟨t', rfl⟩ := ry
  exact rule i j t t' s _ _ hc ⟨.int (g i j), H, I.tok _, ⟨_, rfl⟩, q⟩
theorem opI0 {f : Value → Value → Sem Value} {g : Int → Int → Int}
    (rule : ∀ (i j : Int) (t u : Tok) (s : Shared) (Q : Value → Shared → Prop) (E : Value → Shared → Prop), Q (.int (g i j) s.toks) { s with toks := s.toks + 1 } → wpAny (model X.prog X.w) X.A (f (.int i t) (.int j u)) Q E s) :
    OpR X f (rI0 fun i j => .int (g i j)) := by
  intro pins s σ H x y v u Q I rx ry h
  obtain ⟨i, j, rfl, rfl, q⟩ := h
  obtain ⟨t, rfl⟩ := rx
  obtain ⟨t', rfl⟩ := ry
  exact rule i j t t' s _ _ ⟨.int (g i j), H, I.tok _, ⟨_, rfl⟩, q⟩
theorem opB0 {f : Value → Value → Sem Value} {g : Int → Int → Bool}
    (rule : ∀ (i j : Int) (t u : Tok) (s : Shared) (Q : Value → Shared → Prop) (E : Value → Shared → Prop), Q (.bool (g i j)) s → wpAny (model X.prog X.w) X.A (f (.int i t) (.int j u)) Q E s) :
    OpR X f (rI0 fun i j => .bl (g i j)) := by
  intro pins s σ H x y v u Q I rx ry h
  obtain ⟨i, j, rfl, rfl, q⟩ := h
  obtain ⟨t, rfl⟩ := rx
  obtain ⟨t', rfl⟩ := ry
  exact rule i j t t' s _ _ ⟨.bl (g i j), H, I, rfl, q⟩

def CDiv (i j : Int) : Prop := 0 < j ∧ j < 1073741824
def CMul (i j : Int) : Prop := (-(2 ^ 64) < i ∧ i < 2 ^ 64) ∨ (-(2 ^ 64) < j ∧ j < 2 ^ 64)
theorem CMul.ok {i j : Int} (h : CMul i j) : IntMulOk i j := by
  rcases h with ⟨h1, h2⟩ | ⟨h1, h2⟩
  · exact .of_left (intBits_le_64 h1 h2)
  · exact .of_right (intBits_le_64 h1 h2)

theorem op_add : OpR X (binaryOp .Add) (rI0 fun i j => .int (i + j)) := opI0 fun _ _ _ _ _ _ _ q => add_int q
theorem op_sub : OpR X (binaryOp .Sub) (rI0 fun i j => .int (i - j)) := opI0 fun _ _ _ _ _ _ _ q => sub_int q
theorem op_mul : OpR X (binaryOp .Mult) (rI CMul fun i j => .int (i * j)) := opI fun _ _ _ _ _ _ _ hc q => mul_int q hc.ok
/-- // by a positive divisor -/
theorem op_fdiv : OpR X (binaryOp .FloorDiv) (rI CDiv fun i j => .int (i / j)) := opI fun i j _ _ _ _ _ hc q => by
  have h1 : (0 : Int) < j := hc.1
  have h2 : j < 1073741824 := hc.2
  exact floordiv_int (by omega) (by rw [Int.fdiv_eq_ediv_of_nonneg i (by omega)]; exact q) (.inl (PyProof.noPylong_small (by omega)))


theorem unI {f : Value → Sem Value} {g : Int → Int}
    (rule : ∀ (i : Int) (t : Tok) (s : Shared) (Q : Value → Shared → Prop) (E : Value → Shared → Prop), Q (.int (g i) s.toks) { s with toks := s.toks + 1 } → wpAny (model X.prog X.w) X.A (f (.int i t)) Q E s) :
    UnR X f (rU fun i => .int (g i)) := by
  intro pins s σ H x v Q I rx h
  obtain ⟨i, rfl, q⟩ := h
  obtain ⟨t, rfl⟩ := rx
  exact rule i t s _ _ ⟨.int (g i), H, I.tok _, ⟨_, rfl⟩, q⟩
theorem un_neg : UnR X (unaryOp .USub) (rU fun i => .int (-i)) := unI fun _ _ _ _ _ q => neg_int q

/-! ### bools among ints: n += (a < b) -/
end

/-! ### comparisons -/
/-- the scalars that == tells apart as data does -/
def scal : V → V → Bool
  | .non, .non => true | .non, .int _ => true | .int _, .non => true | .non, .bl _ => true | .bl _, .non => true | .non, .str _ => true | .str _, .non => true
  | .int _, .int _ => true | .bl _, .bl _ => true | .str _, .str _ => true | .byt _, .byt _ => true
  | .int _, .str _ => true | .str _, .int _ => true | .bl _, .str _ => true | .str _, .bl _ => true
  | _, _ => false
def rEq : R2 := fun x y H Q => scal x y = true ∧ Q (.bl (decide (x = y))) H
def rNe : R2 := fun x y H Q => scal x y = true ∧ Q (.bl (!decide (x = y))) H

theorem dec_int {i j : Int} : decide (V.int i = V.int j) = (i == j) := by
  rw [Bool.eq_iff_iff]
  simp
theorem dec_bl {i j : Bool} : decide (V.bl i = V.bl j) = (i == j) := by
  rw [Bool.eq_iff_iff]
  simp
theorem dec_str {i j : Str} : decide (V.str i = V.str j) = (i == j) := by
  rw [Bool.eq_iff_iff]
  simp
theorem dec_byt {i j : Array UInt8} : decide (V.byt i = V.byt j) = (i.toList == j.toList) := by
  rw [Bool.eq_iff_iff]
  cases i
  cases j
  simp

section
variable {X : Cx} {a b c : Expr} {ta tb tc : TE} {pos : Pos}
theorem fin_bl {pins : List (Addr × Obj)} {σ : St} {H : Hp} {s : Shared} {Q : VK} {k k' : Bool} (I : Inv X pins σ H s) (q : Q (.bl k) H) (e : k = k') : EP X pins σ Q (.bool k') s := by
  subst e
  exact ⟨.bl k, H, I, rfl, q⟩
theorem op_eq : OpR X (compareOp .Eq) rEq := by
  intro pins s σ H x y v u Q I rx ry h
  obtain ⟨hs, q⟩ := h
  cases x with
  | non =>
    cases rx
    cases y with
    | non => cases ry; exact PySem.EqNone.eq_none_none (fin_bl I q (by simp))
    | bl j => cases ry; exact PySem.EqNone.eq_none_bool (fin_bl I q (by simp))
    | int j => obtain ⟨t', rfl⟩ := ry; exact PySem.EqNone.eq_none_int (fin_bl I q (by simp))
    | str j => obtain ⟨t', rfl⟩ := ry; exact PySem.EqNone.eq_none_str (fin_bl I q (by simp))
    | _ => exact absurd (show false = true from hs) Bool.false_ne_true
  | bl i =>
    cases rx
    cases y with
    | non => cases ry; exact PySem.EqNone.eq_bool_none (fin_bl I q (by simp))
    | bl j => cases ry; exact eq_bool (fin_bl I q dec_bl)
    | str j => obtain ⟨t', rfl⟩ := ry; exact PySem.EqMixed.eq_bool_str (fin_bl I q (by simp))
    | _ => exact absurd (show false = true from hs) Bool.false_ne_true
  | int i =>
    obtain ⟨t, rfl⟩ := rx
    cases y with
    | non => cases ry; exact PySem.EqNone.eq_int_none (fin_bl I q (by simp))
    | int j => obtain ⟨t', rfl⟩ := ry; exact eq_int (fin_bl I q dec_int)
    | str j => obtain ⟨t', rfl⟩ := ry; exact PySem.EqMixed.eq_int_str (fin_bl I q (by simp))
    | _ => exact absurd (show false = true from hs) Bool.false_ne_true
  | str i =>
    obtain ⟨t, rfl⟩ := rx
    cases y with
    | non => cases ry; exact PySem.EqNone.eq_str_none (fin_bl I q (by simp))
    | bl j => cases ry; exact PySem.EqMixed.eq_str_bool (fin_bl I q (by simp))
    | int j => obtain ⟨t', rfl⟩ := ry; exact PySem.EqMixed.eq_str_int (fin_bl I q (by simp))
    | str j => obtain ⟨t', rfl⟩ := ry; exact eq_str (fin_bl I q dec_str)
    | _ => exact absurd (show false = true from hs) Bool.false_ne_true
  | byt i =>
    obtain ⟨t, rfl⟩ := rx
    cases y with
    | byt j => obtain ⟨t', rfl⟩ := ry; exact PySem.W.eq_bytes (fin_bl I q dec_byt)
    | _ => exact absurd (show false = true from hs) Bool.false_ne_true
  | _ => cases y <;> exact absurd (show false = true from hs) Bool.false_ne_true
theorem op_ne : OpR X (compareOp .NotEq) rNe := by
  intro pins s σ H x y v u Q I rx ry h
  obtain ⟨hs, q⟩ := h
  cases x with
  | non =>
    cases rx
    cases y with
    | non => cases ry; exact PySem.EqNone.ne_none_none (fin_bl I q (by simp))
    | bl j => cases ry; exact PySem.EqNone.ne_none_bool (fin_bl I q (by simp))
    | int j => obtain ⟨t', rfl⟩ := ry; exact PySem.EqNone.ne_none_int (fin_bl I q (by simp))
    | str j => obtain ⟨t', rfl⟩ := ry; exact PySem.EqNone.ne_none_str (fin_bl I q (by simp))
    | _ => exact absurd (show false = true from hs) Bool.false_ne_true
  | bl i =>
    cases rx
    cases y with
    | non => cases ry; exact PySem.EqNone.ne_bool_none (fin_bl I q (by simp))
    | bl j => cases ry; exact ne_bool (fin_bl I q (congrArg not dec_bl))
    | str j => obtain ⟨t', rfl⟩ := ry; exact PySem.EqMixed.ne_bool_str (fin_bl I q (by simp))
    | _ => exact absurd (show false = true from hs) Bool.false_ne_true
  | int i =>
    obtain ⟨t, rfl⟩ := rx
    cases y with
    | non => cases ry; exact PySem.EqNone.ne_int_none (fin_bl I q (by simp))
    | int j => obtain ⟨t', rfl⟩ := ry; exact ne_int (fin_bl I q (congrArg not dec_int))
    | str j => obtain ⟨t', rfl⟩ := ry; exact PySem.EqMixed.ne_int_str (fin_bl I q (by simp))
    | _ => exact absurd (show false = true from hs) Bool.false_ne_true
  | str i =>
    obtain ⟨t, rfl⟩ := rx
    cases y with
    | non => cases ry; exact PySem.EqNone.ne_str_none (fin_bl I q (by simp))
    | bl j => cases ry; exact PySem.EqMixed.ne_str_bool (fin_bl I q (by simp))
    | int j => obtain ⟨t', rfl⟩ := ry; exact PySem.EqMixed.ne_str_int (fin_bl I q (by simp))
    | str j => obtain ⟨t', rfl⟩ := ry; exact ne_str (fin_bl I q (congrArg not dec_str))
    | _ => exact absurd (show false = true from hs) Bool.false_ne_true
  | byt i =>
    obtain ⟨t, rfl⟩ := rx
    cases y with
    | byt j => obtain ⟨t', rfl⟩ := ry; exact PySem.W.ne_bytes (fin_bl I q (congrArg not dec_byt))
    | _ => exact absurd (show false = true from hs) Bool.false_ne_true
  | _ => cases y <;> exact absurd (show false = true from hs) Bool.false_ne_true

theorem op_lt : OpR X (compareOp .Lt) (rI0 fun i j => .bl (decide (i < j))) := opB0 fun _ _ _ _ _ _ _ q => lt_int q
theorem op_le : OpR X (compareOp .LtE) (rI0 fun i j => .bl (decide (i ≤ j))) := opB0 fun _ _ _ _ _ _ _ q => le_int q
theorem op_gt : OpR X (compareOp .Gt) (rI0 fun i j => .bl (decide (j < i))) := opB0 fun _ _ _ _ _ _ _ q => gt_int q
theorem op_ge : OpR X (compareOp .GtE) (rI0 fun i j => .bl (decide (j ≤ i))) := opB0 fun _ _ _ _ _ _ _ q => ge_int q




theorem nomark (b : Expr) {op : CmpOp} (h : op ≠ .In := by decide) (h2 : op ≠ .NotIn := by decide) : behindInMarks op b = false := by
  have e1 : (op == CmpOp.In) = false := by cases op <;> first | rfl | exact absurd rfl h
  have e2 : (op == CmpOp.NotIn) = false := by cases op <;> first | rfl | exact absurd rfl h2
  cases b <;> simp [behindInMarks, e1, e2]
/-- a comparison as a value; hm: nomark b, or (for in, not in) by with_unfolding_all rfl -/
theorem pe_cmpR {op : CmpOp} {r : R2} (ho : OpR X (compareOp op) r) (ha : PE X a ta) (hb : PE X b tb) (hm : behindInMarks op b = false) : PE X (.Compare a [op] [b] pos) (tOp r ta tb) := by
  intro pins s σ H Q I h
  exact wpAny_Compare1 (binT ha hb I h fun v u s2 x y H2 I2 rx ry q => ho pins s2 σ H2 x y v u Q I2 rx ry q) hm
/-- a reading of a value as a test -/
def tTest (t : TE) : TT := fun σ H Q => t σ H fun x H' => ∃ k, x = .bl k ∧ Q k H'
theorem pt_cmpR {op : CmpOp} {r : R2} (ho : OpR X (compareOp op) r) (ha : PE X a ta) (hb : PE X b tb) (hm : behindInMarks op b = false) : PT X (.Compare a [op] [b] pos) (tTest (tOp r ta tb)) := by
  intro pins s σ H Q I h
  refine wpAny_isTrue_Compare1 (thn (ha pins s σ H _ I h) fun v s1 ⟨x, H1, I1, r1, q1⟩ => thn (hb pins s1 σ H1 _ I1 q1) fun u s2 ⟨y, H2, I2, r2, q2⟩ =>
    thn (ho pins s2 σ H2 x y v u _ I2 r1 r2 q2) fun c s3 ⟨z, H3, I3, r3, k, e, q3⟩ => ?_) hm
  subst e
  cases r3
  exact wpAny_truthy_bool ⟨H3, I3, q3⟩

/-! ### truth -/
theorem line63 : (sizeLine : Nat) < 2 ^ 63 := by rw [sizeLine_eq]; decide

/-! ### strs and bytes -/


/-! ### scalar builtins, by CallR -/
theorem vals1 {x : V} {us : List Value} (r : Vals [x] us) : ∃ u, us = [u] ∧ RelV x u := by
  cases r with
  | cons r1 r2 => cases r2; exact ⟨_, rfl, r1⟩
theorem vals2 {x y : V} {us : List Value} (r : Vals [x, y] us) : ∃ u w', us = [u, w'] ∧ RelV x u ∧ RelV y w' := by
  cases r with
  | cons r1 r2 =>
    cases r2 with
    | cons r3 r4 => cases r4; exact ⟨_, _, rfl, r1, r3⟩
theorem call_max2 (hc : X.calm = true) : CallR X (.builtin "max") (fun xs H Q => ∃ i j, xs = [.int i, .int j] ∧ Q (.int (if j > i then j else i)) H) := by
  intro pins s σ H xs us Q I r h
  obtain ⟨i, j, rfl, q⟩ := h
  obtain ⟨u, w', rfl, ⟨t, rfl⟩, ⟨t', rfl⟩⟩ := vals2 r
  refine max_two_ints (I.ok.hd hc) fun h' tk k => ⟨_, H, I.kept k, ?_, q⟩
  by_cases hj : j > i
  · rw [if_pos hj, if_pos hj]; exact ⟨_, rfl⟩
  · rw [if_neg hj, if_neg hj]; exact ⟨_, rfl⟩
theorem call_min2 (hc : X.calm = true) : CallR X (.builtin "min") (fun xs H Q => ∃ i j, xs = [.int i, .int j] ∧ Q (.int (if j < i then j else i)) H) := by
  intro pins s σ H xs us Q I r h
  obtain ⟨i, j, rfl, q⟩ := h
  obtain ⟨u, w', rfl, ⟨t, rfl⟩, ⟨t', rfl⟩⟩ := vals2 r
  refine min_two_ints (I.ok.hd hc) fun h' tk k => ⟨_, H, I.kept k, ?_, q⟩
  by_cases hj : j < i
  · rw [if_pos hj, if_pos hj]; exact ⟨_, rfl⟩
  · rw [if_neg hj, if_neg hj]; exact ⟨_, rfl⟩
end
end L2

namespace L2
open PySem PySem.Spec PyProof.Rows

/-! ### an instance, its attributes a map -/
structure ObjM (h : Heap) (x dx C : Addr) (mA : Str → Option Value) : Prop where
  obj : h.get? x = some (PySem.W.instObj C dx)
  ns : h.Ns1 dx mA
  ne : dx ≠ x

theorem lookIn_ns {h : Heap} {dx : Addr} {mA : Str → Option Value} (n : h.Ns1 dx mA) : ∃ od, h.get? dx = some od ∧ ∀ name, PySem.W.lookIn name od = some (mA name) := by
  obtain ⟨o, es, ep, ho, hd, hk, _, hm⟩ := n
  refine ⟨o, ho, fun name => ?_⟩
  have e := hm name
  unfold nsFind findBy at e
  rw [← Array.find?_toList] at e
  unfold PySem.W.lookIn
  rw [hd]
  dsimp only
  split
  · rename_i y q
    rw [q] at e
    exact congrArg some e
  · rename_i q
    rw [q] at e
    have a : es.toList.any (·.refKey) = false := by
      rw [List.any_eq_false]
      intro y hy
      obtain ⟨z, t, hkey⟩ := hk y (Array.mem_toList_iff.mp hy)
      simp [DictEntry.refKey, hkey]
    have a' : ¬ es.toList.any (·.refKey) = true := by rw [a]; exact Bool.false_ne_true
    rw [if_neg a']
    exact congrArg some e

theorem ObjM.look {h : Heap} {x dx C : Addr} {mA : Str → Option Value} (I : ObjM h x dx C mA) : ∃ od, PySem.W.InstAt h x (PySem.W.instObj C dx) C (some od) ∧ ∀ name, PySem.W.lookIn name od = some (mA name) :=
  let ⟨od, ho, hl⟩ := lookIn_ns I.ns
  ⟨od, ⟨I.obj, rfl, rfl, ho⟩, hl⟩

section
variable {prog : Program} {w : World} {A : Around} {E : Value → Shared → Prop} {s : Shared} {K : PySem.W.Frag} {x dx C f : Addr} {mA : Str → Option Value} {name : Str} {v : Value}

theorem get_map {expr : Bool} {Q : Value → Shared → Prop} (X : K.In s.heap) (I : ObjM s.heap x dx C mA) (hg : PySem.W.plainGet K C name = true) (hh : PySem.W.hasDictIn K C = true)
    (ha : PySem.W.findIn K (.ref C) name = some none) (hv : mA name = some v) (hv' : PySem.W.handedIn v = true) (h : Q v { s with toks := s.toks + 1 }) :
    wpAny (model prog w) A (getAttr (.ref x) name expr) Q E s := by
  obtain ⟨od, J, hl⟩ := I.look
  exact PySem.W.get_value X J (PySem.W.plainGet_of hg).1 (PySem.W.findObj_own hh ha rfl (by rw [hl, hv])) hv' h


theorem get_meth {pl : Sem Bool} {Q : Value × List Value → Shared → Prop} (X : K.In s.heap) (I : ObjM s.heap x dx C mA) (hg : PySem.W.plainGet K C name = true)
    (hf : PySem.W.findIn K (.ref C) name = some (some (.ref f))) (ht : PySem.W.isFn K (.ref f) = true) (hv : mA name = none) (h : Q (.ref f, [.ref x]) s) :
    wpAny (model prog w) A (getMethod (.ref x) name pl) Q E s := by
  obtain ⟨od, J, hl⟩ := I.look
  exact PySem.W.method_fn X J (PySem.W.plainGet_of hg).1 (PySem.W.plainGet_of hg).2 hf (beq_iff_eq.mp ht) (by show (PySem.W.lookIn name od).map (·.isSome) = some false; rw [hl, hv]; rfl) h

theorem set_map {ns : List Str} {Q : Unit → Shared → Prop} (X : K.In s.heap) (I : ObjM s.heap x dx C mA)
    (hs : PySem.W.findIn K (.ref C) "__setattr__" = some (some (.builtin "object.__setattr__"))) (hp : PySem.W.plainOver K C = true) (ht : PySem.W.takerIn K C name = some none) (hh : PySem.W.hasDictIn K C = true)
    (hw : PySem.Within mA ns) (hsz : ns.length ≤ sizeLine)
    (h : ∀ h', ObjM h' x dx C (fun y => if y = name then some v else mA y) → Heap.SameBut dx s.heap h' → Q () { s with heap := h', toks := s.toks + 2 }) :
    wpAny (model prog w) A (setAttr (.ref x) name v) Q E s := by
  obtain ⟨od, J, hl⟩ := I.look
  refine PySem.W.set_plain X J hs (PySem.W.osa_open (s := { s with toks := s.toks + 1 }) (r := none) X J hp ht fun b => ?_)
  obtain ⟨cd, hc, hd'⟩ := PySem.W.any_some hh
  have hx : s.heap.get? x = some ⟨.ref C, some dx, .plain, #[]⟩ := I.obj
  refine wpAny_bind (wpAny_pure (wpAny_bind (wpAny_bind (wpAny_loadPart hx (wpAny_bind (PySem.W.Looks.here (s := { s with toks := s.toks + 1 }) (PySem.W.looks_clsIn X hc) ?_))))))
  rw [hd']
  refine wpAny_pure (a := some dx) (wpAny_bind (wpAny_pure (wpAny_bind ?_)))
  refine wpAny_nsSet1 (s := { s with toks := s.toks + 1 }) I.ns fun h' hn2 hs2 => ?_
  obtain ⟨oD, esD, epD, hoD, hdD, hcD⟩ := hn2.count (PySem.Within.cons name v hw)
  refine wpAny_bind (wpAny_lookBehind hoD (by rw [hdD]; exact pastItsLine_dict (Nat.le_trans hcD (by rw [List.length_cons]; omega))) ?_)
  exact wpAny_pure (h _ ⟨(hs2.2 _ (Ne.symm I.ne)).trans I.obj, hn2, I.ne⟩ hs2)

/-- C(..): the dict at the heap's end, the instance behind it; then its __init__ -/
theorem make_map {R : Result → Shared → Prop} {vs : List Value} {kw : List (Str × Value)} (X : K.In s.heap) (hm : PySem.W.makesIn K C = true)
    (hi : PySem.W.findIn K (.ref C) "__init__" = some (some (.ref f))) (hf : PySem.W.typeIn K (.ref f) = some (.type "function"))
    (h : codeAny (model prog w) (A.under (.builtin "type.__call__" ⟨.ref C :: vs, kw⟩)) (.call (.ref f) ⟨.ref (s.heap.objs.size + 1) :: vs, kw⟩) (PySem.W.InitBack (s.heap.objs.size + 1) R)
      { s with heap := (s.heap.push PySem.W.emptyDict).push (PySem.W.instObj C s.heap.objs.size) }) :
    codeAny (model prog w) A (.call (.ref C) ⟨vs, kw⟩) R s := by
  obtain ⟨hh, g, d, t, os⟩ := s
  exact PySem.W.make_core (PySem.W.makes_of X hm) (PySem.W.looks_findIn X hi) (fun self => PySem.W.bind_fn X self hf) (.inl rfl) h
end

/-! ### the attributes as a list of pairs -/
def putF (f : Str) (v : V) : List (Str × V) → List (Str × V)
  | [] => [(f, v)]
  | (g, x) :: r => if g = f then (g, v) :: r else (g, x) :: putF f v r
theorem lookup_putF (f g : Str) (v : V) : ∀ fs : List (Str × V), (putF f v fs).lookup g = if g = f then some v else fs.lookup g
  | [] => by
    show List.lookup g [(f, v)] = _
    by_cases h : g = f
    · have hb : (g == f) = true := beq_iff_eq.mpr h
      simp only [List.lookup, hb, if_pos h]
    · have hb : (g == f) = false := beq_eq_false_iff_ne.mpr h
      simp only [List.lookup, hb, if_neg h]
  | (k, x) :: r => by
    have ih := lookup_putF f g v r
    rw [show putF f v ((k, x) :: r) = (if k = f then (k, v) :: r else (k, x) :: putF f v r) from rfl]
    by_cases hk : k = f
    · rw [if_pos hk]
      by_cases h : g = k
      · have hb : (g == k) = true := beq_iff_eq.mpr h
        simp only [List.lookup, hb, if_pos (h.trans hk)]
      · have hb : (g == k) = false := beq_eq_false_iff_ne.mpr h
        simp only [List.lookup, hb, if_neg (fun e : g = f => h (e.trans hk.symm))]
    · rw [if_neg hk]
      by_cases h : g = k
      · have hb : (g == k) = true := beq_iff_eq.mpr h
        simp only [List.lookup, hb, if_neg (fun e : g = f => hk (h.symm.trans e))]
      · have hb : (g == k) = false := beq_eq_false_iff_ne.mpr h
        simp only [List.lookup, hb]
        exact ih
theorem keys_putF (f : Str) (v : V) : ∀ fs : List (Str × V), f ∈ (putF f v fs).map (·.1) ∧ ∀ g, g ∈ fs.map (·.1) → g ∈ (putF f v fs).map (·.1)
  | [] => ⟨by simp [putF], fun g h => by simp at h⟩
  | (k, x) :: r => by
    obtain ⟨i1, i2⟩ := keys_putF f v r
    rw [show putF f v ((k, x) :: r) = (if k = f then (k, v) :: r else (k, x) :: putF f v r) from rfl]
    by_cases hk : k = f
    · rw [if_pos hk]
      subst hk
      exact ⟨by simp, fun g h => by simpa using h⟩
    · rw [if_neg hk]
      refine ⟨?_, fun g h => ?_⟩
      · rw [List.map_cons]
        exact List.mem_cons_of_mem _ i1
      · rw [List.map_cons] at h ⊢
        rcases List.mem_cons.mp h with e | e
        · exact List.mem_cons.mpr (.inl e)
        · exact List.mem_cons_of_mem _ (i2 g e)
theorem length_putF (f : Str) (v : V) : ∀ fs : List (Str × V), (putF f v fs).length ≤ fs.length + 1
  | [] => by simp [putF]
  | (k, x) :: r => by
    have ih := length_putF f v r
    rw [show putF f v ((k, x) :: r) = (if k = f then (k, v) :: r else (k, x) :: putF f v r) from rfl]
    by_cases hk : k = f
    · rw [if_pos hk, List.length_cons, List.length_cons]; omega
    · rw [if_neg hk, List.length_cons, List.length_cons]; omega

theorem RelO.some_of {v : V} {o : Option Value} (r : RelO (some v) o) : ∃ u, o = some u ∧ RelV v u := by
  cases o with
  | none => exact (show False from r).elim
  | some u => exact ⟨u, rfl, r⟩
theorem RelO.none_of {o : Option Value} (r : RelO none o) : o = none := by
  cases o with
  | none => rfl
  | some u => exact (show False from r).elim
theorem handed_of {v : V} {u : Value} (r : RelV v u) : PySem.W.handedIn u = true := by
  cases v with
  | non => cases (show u = Value.none from r); rfl
  | bl b => cases (show u = Value.bool b from r); rfl
  | int i => obtain ⟨t, e⟩ := (show ∃ t, u = Value.int i t from r); cases e; rfl
  | str x => obtain ⟨t, e⟩ := (show ∃ t, u = Value.str x t from r); cases e; rfl
  | byt b => obtain ⟨t, e⟩ := (show ∃ t, u = Value.bytes b t from r); cases e; rfl
  | flt b => obtain ⟨t, e⟩ := (show ∃ t, u = Value.float b t from r); cases e; rfl
  | ref a => cases (show u = Value.ref a from r); rfl
  | ty n => cases (show u = Value.type n from r); rfl

section
variable {P : Program} {w : World} {H H' : Hp} {h h' : Heap} {a C dx : Addr} {fs fs' : List (Str × V)}
theorem ins_get (hok : HOk P w H h) (e : H a = some (.ins C dx fs)) : ∃ mA, ObjM h a dx C mA ∧ (∀ f, RelO (fs.lookup f) (mA f)) ∧ PySem.Within mA (fs.map (·.1)) ∧ fs.length ≤ 1000 ∧ H dx = some (.own a) := by
  obtain ⟨d, z, ne, ob, mA, n, r, q⟩ := (show ObjOk P w H h a (.ins C dx fs) from hok a _ e)
  exact ⟨mA, ⟨ob, n, ne⟩, r, q, z, d⟩
end

/-! ### what of the text a class must have -/
structure Cls (K : PySem.W.Frag) (C : Addr) : Prop where
  pg : PySem.W.plainGet K C Str.empty = true
  hd : PySem.W.hasDictIn K C = true
  po : PySem.W.plainOver K C = true
  sa : PySem.W.findIn K (.ref C) "__setattr__" = some (some (.builtin "object.__setattr__"))
theorem Cls.get {K : PySem.W.Frag} {C : Addr} (c : Cls K C) (f : Str) : PySem.W.plainGet K C f = true := c.pg
/-- no class of it has the name -/
def NoAttr (K : PySem.W.Frag) (C : Addr) (f : Str) : Prop := PySem.W.findIn K (.ref C) f = some none
theorem NoAttr.taker {K : PySem.W.Frag} {C : Addr} {f : Str} (n : NoAttr K C f) : PySem.W.takerIn K C f = some none := by
  unfold PySem.W.takerIn
  rw [show PySem.W.findIn K (.ref C) f = some none from n]
  rfl
/-- a method: a plain def of the class or of one above it -/
structure Meth (K : PySem.W.Frag) (C : Addr) (m : Str) (f : Addr) : Prop where
  at_ : PySem.W.findIn K (.ref C) m = some (some (.ref f))
  fn : PySem.W.isFn K (.ref f) = true
  kp : PySem.W.keepIn K (.ref f) = true

section
variable {X : Cx} {pins : List (Addr × Obj)} {σ : St} {H : Hp} {s : Shared} {a C dx : Addr} {fs : List (Str × V)} {f : Str} {v : V} {A : Around} {E : Value → Shared → Prop}

theorem getattr_ok {b : Bool} {Q : Value → Shared → Prop} (I : Inv X pins σ H s) (e : H a = some (.ins C dx fs)) (c : Cls X.K C) (n : NoAttr X.K C f) (l : fs.lookup f = some v)
    (h : ∀ u s', Inv X pins σ H s' → RelV v u → Q u s') : wpAny (model X.prog X.w) A (getAttr (.ref a) f b) Q E s := by
  obtain ⟨mA, O, r, _, _, _⟩ := ins_get I.hok e
  obtain ⟨u, hu, ru⟩ := RelO.some_of (v := v) (o := mA f) (by rw [← l]; exact r f)
  exact get_map I.kIn O (c.get f) c.hd n hu (handed_of ru) (h u _ (I.tok _) ru)


theorem getmeth_ok {m : Str} {g : Addr} {pl : Sem Bool} {Q : Value × List Value → Shared → Prop} (I : Inv X pins σ H s) (e : H a = some (.ins C dx fs)) (c : Cls X.K C) (k : Meth X.K C m g) (l : fs.lookup m = none)
    (h : Q (.ref g, [.ref a]) s) : wpAny (model X.prog X.w) A (getMethod (.ref a) m pl) Q E s := by
  obtain ⟨mA, O, r, _, _, _⟩ := ins_get I.hok e
  have hn : mA m = none := RelO.none_of (by rw [← l]; exact r m)
  exact get_meth I.kIn O (c.get m) k.at_ k.fn hn h

theorem setattr_ok {y : V} {u : Value} {Q : Unit → Shared → Prop} (I : Inv X pins σ H s) (e : H a = some (.ins C dx fs)) (c : Cls X.K C) (n : NoAttr X.K C f) (hl : fs.length < 1000) (ry : RelV y u)
    (h : ∀ s', Inv X pins σ (upd H a (.ins C dx (putF f y fs))) s' → Q () s') : wpAny (model X.prog X.w) A (setAttr (.ref a) f u) Q E s := by
  obtain ⟨mA, O, r, wi, _, ho⟩ := ins_get I.hok e
  have hz : (fs.map (·.1)).length ≤ sizeLine := by rw [List.length_map, sizeLine_eq]; omega
  refine set_map I.kIn O c.sa c.po n.taker c.hd wi hz fun h' O' sb => h _ ?_
  have hd : ∃ o, h'.get? dx = some o := let ⟨o, _, _, e', _⟩ := O'.ns; ⟨o, e'⟩
  refine I.write (x := a) (e := dx) (by rw [e]; exact True.intro) (.inr ho) (fun b q hb z => (sb.2 b hb).trans z) hd ?_
  refine ⟨by rw [upd_ne O.ne]; exact ho, ?_, O.ne, O'.obj, _, O'.ns, fun g => ?_, fun g hg => ?_⟩
  · have := length_putF f y fs; omega
  · show RelO ((putF f y fs).lookup g) (if g = f then some u else mA g)
    rw [lookup_putF]
    by_cases q : g = f
    · rw [if_pos q, if_pos q]; exact ry
    · rw [if_neg q, if_neg q]; exact r g
  · by_cases q : g = f
    · rw [q]; exact (keys_putF f y fs).1
    · refine (keys_putF f y fs).2 g (wi g fun z => hg ?_)
      show (if g = f then some u else mA g) = none
      rw [if_neg q]; exact z

/-- a new instance, tracked, without attributes -/
theorem Inv.made (I : Inv X pins σ H s) : Inv X pins σ (upd (upd H s.heap.objs.size (.own (s.heap.objs.size + 1))) (s.heap.objs.size + 1) (.ins C s.heap.objs.size []))
    { s with heap := (s.heap.push PySem.W.emptyDict).push (PySem.W.instObj C s.heap.objs.size) } := by
  have e1 : (s.heap.push PySem.W.emptyDict).get? s.heap.objs.size = some PySem.W.emptyDict := Heap.get?_push_size s.heap rfl
  have e2 : ((s.heap.push PySem.W.emptyDict).push (PySem.W.instObj C s.heap.objs.size)).get? (s.heap.objs.size + 1) = some (PySem.W.instObj C s.heap.objs.size) := by
    have := Heap.get?_push_size (s.heap.push PySem.W.emptyDict) (o := PySem.W.instObj C s.heap.objs.size) rfl
    rwa [Heap.size_push] at this
  have e3 : (s.heap.push PySem.W.emptyDict).Ns s.heap.objs.size (fun _ => none) := ⟨PySem.W.emptyDict, #[], _, e1, rfl, (fun e he => absurd he (by simp)), fun _ => rfl⟩
  have I1 := I.laid (a := s.heap.objs.size) (o := .own (s.heap.objs.size + 1)) (h' := s.heap.push PySem.W.emptyDict) (t' := s.toks) (fun b u q => Heap.get?_push_of_some _ q) (Nat.le_refl _) ⟨_, e1⟩
  refine I1.laid (a := s.heap.objs.size + 1) (o := .ins C s.heap.objs.size []) (t' := s.toks) (fun b u q => Heap.get?_push_of_some _ q) (Nat.le_of_eq (Heap.size_push _ _)) ?_
  have ne : s.heap.objs.size ≠ s.heap.objs.size + 1 := Nat.ne_of_lt (Nat.lt_succ_self _)
  refine ⟨by rw [upd_ne ne, upd_same], Nat.zero_le _, ne, e2, fun _ => none, (Heap.Ns1.of_empty e3).at fun o q => Heap.get?_push_of_some _ q, fun _ => True.intro, fun y hy => absurd rfl hy⟩

/-- e.f where nothing but the object is asked: through attributeBase (super) and the last hold -/
theorem attr_of {prog : Program} {w : World} {env : Env} {e : Expr} {f : Str} {pos : Pos} {s : Shared} {Q : Value → Shared → Prop} (hb : attributeBase e f env (eval e env) = eval e env)
    (h : wpAny (model prog w) A (eval e env) (fun o s₁ => wpAny (model prog w) A (getAttr o f true) Q E s₁) E s) : wpAny (model prog w) A (eval (.Attribute e f pos) env) Q E s :=
  Attribute_any_ h (by rw [arm_eval_Attribute, hb])
end

/-! ### readings and rules -/
/-- e.f, an attribute of the instance -/
def tFld (K : PySem.W.Frag) (ta : TE) (f : Str) : TE := fun σ H Q => ta σ H fun x H1 => ∃ a C dx fs v, x = .ref a ∧ H1 a = some (.ins C dx fs) ∧ Cls K C ∧ NoAttr K C f ∧ fs.lookup f = some v ∧ Q v H1
/-- e.f = value -/
def sFld (K : PySem.W.Frag) (ta tv : TE) (f : Str) : TS := fun D σ H => tv σ H fun y H1 => ta σ H1 fun x H2 => ∃ a C dx fs, x = .ref a ∧ H2 a = some (.ins C dx fs) ∧ Cls K C ∧ NoAttr K C f ∧ fs.length < 1000 ∧
  D.nx σ (upd H2 a (.ins C dx (putF f y fs)))
/-- an augmented operator on two values -/
def InOp (X : Cx) (op : Operator) (rd : V → V → Hp → VK → Prop) : Prop :=
  ∀ (pins : List (Addr × Obj)) (s : Shared) (σ : St) (H : Hp) (x y : V) (u v : Value) (Q : VK), Inv X pins σ H s → RelV x u → RelV y v → rd x y H Q → wpAny (model X.prog X.w) X.A (inplaceOp op u v) (EP X pins σ Q) X.xe s
/-- e.f op= value -/
def sFldAug (K : PySem.W.Frag) (ta tv : TE) (rd : V → V → Hp → VK → Prop) (f : Str) : TS := fun D σ H => ta σ H fun x H1 => ∃ a C dx fs v, x = .ref a ∧ H1 a = some (.ins C dx fs) ∧ Cls K C ∧ NoAttr K C f ∧ fs.lookup f = some v ∧
  tv σ H1 fun y H2 => rd v y H2 fun z H3 => ∃ dx' fs', H3 a = some (.ins C dx' fs') ∧ fs'.length < 1000 ∧ D.nx σ (upd H3 a (.ins C dx' (putF f z fs')))

section
variable {X : Cx} {o e value : Expr} {f : Str} {pos pos' tpos : Pos} {ta tv : TE}
theorem pe_fld (he : PE X e ta) (hb : attributeBase e f X.env (eval e X.env) = eval e X.env) : PE X (.Attribute e f pos) (tFld X.K ta f) := by
  intro pins s σ H Q I h
  refine attr_of hb (thn (he pins s σ H _ I h) fun u s1 ⟨x, H1, I1, rx, a, C, dx, fs, v, ex, ea, c, n, l, q⟩ => ?_)
  subst ex
  obtain rfl : u = Value.ref a := rx
  exact getattr_ok I1 ea c n l fun u' s2 I2 ru => ⟨v, H1, I2, ru, q⟩
theorem ps_fld (ha : PE X o ta) (hv : PE X value tv) (hs : swapsWith value (some (.Attribute o f pos')) pos.line X.env = pure false) : PS X (.Assign [.Attribute o f pos'] value pos) (sFld X.K ta tv f) := by
  intro pins s σ H D I h
  refine plainObj_wpAny_Assign_Attribute (thn (hv pins s σ H _ I h) fun u s1 ⟨y, H1, I1, ry, q⟩ => thn (ha pins s1 σ H1 _ I1 q) fun ov s2 ⟨x, H2, I2, rx, a, C, dx, fs, ex, ea, c, n, l, q2⟩ => ?_) hs
  subst ex
  obtain rfl : ov = Value.ref a := rx
  exact setattr_ok I2 ea c n l ry fun s3 I3 => ⟨σ, _, I3, q2⟩
theorem ps_fldaug {op : Operator} {rd : V → V → Hp → VK → Prop} (ha : PE X o ta) (hv : PE X value tv) (hop : InOp X op rd) : PS X (.AugAssign (.Attribute o f tpos) op value pos) (sFldAug X.K ta tv rd f) := by
  intro pins s σ H D I h
  refine wpAny_AugAssign_AttributeAny (thn (ha pins s σ H _ I h) fun ov s1 ⟨x, H1, I1, rx, a, C, dx, fs, v, ex, ea, c, n, l, q⟩ => ?_)
  subst ex
  obtain rfl : ov = Value.ref a := rx
  refine getattr_ok I1 ea c n l fun u s2 I2 ru => thn (hv pins s2 σ H1 _ I2 q) fun w3 s3 ⟨y, H2, I3, ry, q3⟩ => thn (hop pins s3 σ H2 v y u w3 _ I3 ru ry q3) fun w4 s4 ⟨z, H3, I4, rz, dx', fs', ea', l', q4⟩ => ?_
  exact setattr_ok I4 ea' c n l' rz fun s5 I5 => ⟨σ, _, I5, q4⟩
def rAdd : V → V → Hp → VK → Prop := fun x y H Q => ∃ i j, x = .int i ∧ y = .int j ∧ Q (.int (i + j)) H
def rSub : V → V → Hp → VK → Prop := fun x y H Q => ∃ i j, x = .int i ∧ y = .int j ∧ Q (.int (i - j)) H
theorem in_add : InOp X .Add rAdd := by
  rintro pins s σ H x y u v Q I rx ry ⟨i, j, rfl, rfl, q⟩
  obtain ⟨t, rfl⟩ := (show ∃ t, u = Value.int i t from rx)
  obtain ⟨t', rfl⟩ := (show ∃ t', v = Value.int j t' from ry)
  exact PyProof.Rows.iadd_int ⟨.int (i + j), H, I.tok _, ⟨_, rfl⟩, q⟩
theorem in_sub : InOp X .Sub rSub := by
  rintro pins s σ H x y u v Q I rx ry ⟨i, j, rfl, rfl, q⟩
  obtain ⟨t, rfl⟩ := (show ∃ t, u = Value.int i t from rx)
  obtain ⟨t', rfl⟩ := (show ∃ t', v = Value.int j t' from ry)
  exact PyProof.Rows.isub_int ⟨.int (i - j), H, I.tok _, ⟨_, rfl⟩, q⟩

end

/-! ### isinstance -/
section
variable {X : Cx} {pins : List (Addr × Obj)} {σ : St} {H : Hp} {s : Shared} {A : Around} {E : Value → Shared → Prop} {Q : Value → Shared → Prop} {c : Value} {b : Bool}
end
end L2

namespace L2
open PySem PySem.Spec PyProof.Rows

/-! ### room -/
structure Room (k : Nat) (A : Around) : Prop where
  hd : A.handled = none
  dp : A.depth + 3 * k + 5 < recursionLimit
  un : A.units + 16 * k + 200 < cLine
theorem Room.mono {j k : Nat} {A : Around} (r : Room k A) (h : j ≤ k) : Room j A := ⟨r.hd, by have := r.dp; omega, by have := r.un; omega⟩
theorem Room.deeper {k : Nat} {A : Around} (r : Room (k + 1) A) (env : Env) : Room k (A.deeper env) :=
  ⟨r.hd, by have := r.dp; show A.depth + 1 + 3 * k + 5 < _; omega, by have := r.un; show A.units + 3 + 16 * k + 200 < _; omega⟩
theorem make_depth {A : Around} {C : Addr} {us : List Value} {kw : List (Str × Value)} : (A.under (.builtin "type.__call__" ⟨.ref C :: us, kw⟩)).depth = A.depth + 1 := by
  first | rfl | simp [Around.under, Code.weight, Code.isCreation, Code.isGuard, Code.isCaller, Code.frames, Code.isFrame, guardIds]
theorem make_units {A : Around} {C : Addr} {us : List Value} {kw : List (Str × Value)} : (A.under (.builtin "type.__call__" ⟨.ref C :: us, kw⟩)).units = A.units + 1 := by
  first | rfl | simp [Around.under, Code.cUnits, Code.frames, Code.isFrame]
theorem Room.make {k : Nat} {A : Around} (r : Room (k + 1) A) (C : Addr) (us : List Value) (kw : List (Str × Value)) : Room k (A.under (.builtin "type.__call__" ⟨.ref C :: us, kw⟩)) :=
  ⟨r.hd, by have := r.dp; rw [make_depth]; omega, by have := r.un; rw [make_units]; omega⟩
theorem Room.depth {k : Nat} {A : Around} (r : Room k A) : A.depth < recursionLimit := by have := r.dp; omega

/-! ### argument lists and displays -/
def tNil : TA := fun _ H Q => Q [] H
def tCons (ta : TE) (tr : TA) : TA := fun σ H Q => ta σ H fun x H1 => tr σ H1 fun xs H2 => Q (x :: xs) H2
section
variable {X : Cx} {e : Expr} {es : List Expr} {te : TE} {t : TA} {pos : Pos}
theorem pa_nil : PA X [] tNil := fun _ _ _ _ H Q I h => Calls.spliced_nil ⟨[], H, I, .nil, h⟩
theorem pa_cons (ha : PE X e te) (hr : PA X es t) (hs : starEach (e :: es) X.env = (false, eval e X.env) :: starEach es X.env := by rfl) : PA X (e :: es) (tCons te t) := by
  intro pos pins s σ H Q I h
  rw [hs]
  show wpAny _ _ (spliced ((false, eval e X.env) :: backTo pos (starEach es X.env))) _ _ s
  refine Calls.spliced_cons (thn (ha pins s σ H _ I h) fun u s1 ⟨x, H1, I1, r1, q1⟩ => ?_)
  exact thn (hr pos pins s1 σ H1 _ I1 q1) fun us s2 ⟨xs, H2, I2, r2, q2⟩ => ⟨x :: xs, H2, I2, .cons r1 r2, q2⟩

/-- a tuple, a list of written items -/
def tTup (t : TA) : TE := fun σ H Q => t σ H fun xs H1 => xs.length ≤ sizeLine ∧ ∀ p, H1 p = none → Q (.ref p) (upd H1 p (.tup xs))
def tLst (t : TA) : TE := fun σ H Q => t σ H fun xs H1 => xs.length ≤ sizeLine ∧ ∀ p, H1 p = none → Q (.ref p) (upd H1 p (.lst xs))
theorem pe_tup {x1} (h : PA X es t) : PE X (.Tuple es x1 pos) (tTup t) := by
  intro pins s σ H Q I hq
  refine wpAny_Tuple_spliced (thn (h pos pins s σ H _ I hq) fun us s1 ⟨xs, H1, I1, r, z, q⟩ => ⟨by rw [← r.length]; exact z, ?_⟩)
  have hf : H1 s1.heap.objs.size = none := I1.hok.fresh (Nat.le_refl _)
  refine ⟨.ref s1.heap.objs.size, upd H1 s1.heap.objs.size (.tup xs), I1.laid (t' := s1.toks) (fun b u e => Heap.get?_push_of_some _ e) (Nat.le_refl _) ?_, rfl, q _ hf⟩
  exact ⟨z, us, r, ⟨_, Heap.get?_push_size _ rfl, rfl, _, rfl⟩⟩
theorem pe_lst (h : PA X es t) : PE X (.List es pos) (tLst t) := by
  intro pins s σ H Q I hq
  refine wpAny_List_spliced (thn (h pos pins s σ H _ I hq) fun us s1 ⟨xs, H1, I1, r, z, q⟩ => ⟨by rw [← r.length]; exact z, ?_⟩)
  have hf : H1 s1.heap.objs.size = none := I1.hok.fresh (Nat.le_refl _)
  refine ⟨.ref s1.heap.objs.size, upd H1 s1.heap.objs.size (.lst xs), I1.laid (t' := s1.toks) (fun b u e => Heap.get?_push_of_some _ e) (Nat.le_refl _) ?_, rfl, q _ hf⟩
  exact ⟨z, us, 0, r, Heap.get?_push_size _ rfl⟩
end

/-! ### what a def promises -/
/-- a def's promise: the bound arguments in the parameters' order, the heap, the wanted end, the wanted exception -/
abbrev Sp := List V → Hp → VK → XK → Prop
/-- how an exception lies behind a call (file 08 gives it): the callers' frames, abstract heap and state ahead of the call, the wish, the exception, the state -/
abbrev CXT := List Env → Hp → Shared → XK → Value → Shared → Prop

/-- the state at a call -/
structure Env0 (P : Program) (w : World) (K : PySem.W.Frag) (mg : Str → Option Value) (base : Heap) (A : Around) (outer : List Env) (s : Shared) (H : Hp) : Prop where
  frames : A.frames = some outer
  mod : Mod K mg base
  bs : ∀ b o, base.get? b = some o → s.heap.get? b = some o ∧ H b = none
  bsz : base.objs.size ≤ s.heap.objs.size
  funs : s.heap.FunFrames base outer
  frf : ∀ b ∈ frs outer, H b = none
  hok : HOk P w H s.heap
  bare : AllBare s.gens
/-- a call's end -/
def CE (outer : List Env) (P : Program) (w : World) (H : Hp) (s : Shared) (Q : VK) (u : Value) (s' : Shared) : Prop :=
  ∃ v H', s'.os = s.os ∧ AllBare s'.gens ∧ Un (frs outer) [] H H' s.heap s'.heap ∧ HOk P w H' s'.heap ∧ RelV v u ∧ Q v H'
def CR (CX : CXT) (outer : List Env) (P : Program) (w : World) (H : Hp) (s : Shared) (Q : VK) (E : XK) (r : Result) (s' : Shared) : Prop :=
  match r with
  | .ok (.ret u) => CE outer P w H s Q u s'
  | .ok _ => False
  | .error e => CX outer H s E e s'
structure FnOk (P : Program) (w : World) (K : PySem.W.Frag) (mg : Str → Option Value) (base : Heap) (CX : CXT) (k : Nat) (f : Addr) (fd : FuncData) (ps : List Str) (sp : Sp) : Prop where
  len : ∀ vs H Q E, sp vs H Q E → vs.length = ps.length
  run : ∀ (A : Around) (outer : List Env) (s : Shared) (H : Hp) (args : Args) (us : List Value) (vs : List V) (Q : VK) (E : XK), Room k A → Env0 P w K mg base A outer s H → BindsTo s fd args (ps.zip us) → Vals vs us → sp vs H Q E →
    codeAny (model P w) A (.call (.ref f) args) (CR CX outer P w H s Q E) s
/-- a weaker promise -/
theorem FnOk.imp {P : Program} {w : World} {K : PySem.W.Frag} {mg : Str → Option Value} {base : Heap} {CX : CXT} {k : Nat} {f : Addr} {fd : FuncData} {ps : List Str} {sp sp' : Sp} (F : FnOk P w K mg base CX k f fd ps sp)
    (h : ∀ vs H Q E, sp' vs H Q E → sp vs H Q E) : FnOk P w K mg base CX k f fd ps sp' :=
  ⟨fun vs H Q E q => F.len vs H Q E (h _ _ _ _ q), fun A outer s H args us vs Q E hr he hb hv hs => F.run A outer s H args us vs Q E hr he hb hv (h _ _ _ _ hs)⟩

theorem Env0.make {P : Program} {w : World} {K : PySem.W.Frag} {mg : Str → Option Value} {base : Heap} {A : Around} {outer : List Env} {s : Shared} {H : Hp} (e : Env0 P w K mg base A outer s H) (C : Addr) (us : List Value) (kw : List (Str × Value)) :
    Env0 P w K mg base (A.under (.builtin "type.__call__" ⟨.ref C :: us, kw⟩)) outer s H := ⟨by first | exact e.frames | (simpa [Around.under, Code.envs, Code.isFrame, pushEnvs] using e.frames), e.mod, e.bs, e.bsz, e.funs, e.frf, e.hok, e.bare⟩

section
variable {X : Cx} {pins : List (Addr × Obj)} {σ : St} {H : Hp} {s s' : Shared}
/-- from a body: what a callee wants -/
theorem Inv.env0 (I : Inv X pins σ H s) : Env0 X.prog X.w X.K X.mg X.base X.A X.stack s H :=
  ⟨I.ok.frames, I.ok.mod, I.bs, Nat.le_trans I.ok.bsz I.sz, I.stack, I.stkFree, I.hok, I.bare⟩
/-- behind a call -/
theorem Inv.after {Q : VK} {u : Value} (I : Inv X pins σ H s) (h : CE X.stack X.prog X.w H s Q u s') : EP X pins σ Q u s' := by
  obtain ⟨v, H', os, bare, un, hok, r, q⟩ := h
  obtain ⟨hh, g, d, t, os'⟩ := s'
  obtain rfl : os' = s.os := os
  exact ⟨v, H', I.call (h' := hh) (g' := g) (d' := d) (t' := t) (ch := []) un hok bare (fun b z => absurd z (by simp)), r, q⟩
end

/-! ### calls -/
/-- f(..): the written arguments, then the defaults dvs; E: what is wanted of an exception -/
def tCall (sp : Sp) (dvs : List V) (E : XK) (t : TA) : TE := fun σ H Q => t σ H fun vs H1 => sp (vs ++ dvs) H1 Q E
/-- o.m(..) of an instance of the class at C -/
def tMeth (C : Addr) (m : Str) (sp : Sp) (dvs : List V) (E : XK) (ta : TE) (t : TA) : TE := fun σ H Q => ta σ H fun x H1 => ∃ a dx fs, x = .ref a ∧ H1 a = some (.ins C dx fs) ∧ fs.lookup m = none ∧
  t σ H1 fun vs H2 => sp (x :: (vs ++ dvs)) H2 Q E
/-- C(..): a new instance and its dict, then __init__ -/
def tMake (C : Addr) (sp : Sp) (dvs : List V) (E : XK) (t : TA) : TE := fun σ H Q => t σ H fun vs H1 => ∀ x dx, H1 x = none → H1 dx = none → dx ≠ x →
  sp (.ref x :: (vs ++ dvs)) (upd (upd H1 dx (.own x)) x (.ins C dx [])) (fun v H2 => v = .non ∧ Q (.ref x) H2) E

/-- how the parameters are bound: us the positional arguments, kw the keywords' values by name, ds the defaults that fill up -/
def Binds (K : PySem.W.Frag) (fd : FuncData) (ps : List Str) (ds : List Value) : Prop :=
  ∀ (s : Shared) (us : List Value), K.In s.heap → (us ++ ds).length = ps.length → BindsTo s fd ⟨us, []⟩ (ps.zip (us ++ ds))
/-- every parameter is given -/
theorem Binds.all {K : PySem.W.Frag} {fd : FuncData} {ps : List Str} (h : ∀ us : List Value, us.length = ps.length → bindArgs fd ⟨us, []⟩ = pure (ps.zip us)) : Binds K fd ps [] := fun s us _ hl => by
  rw [List.append_nil] at hl ⊢
  exact .of_eq (h us hl)

/-- an exception of a callee reaches what this body wants of exceptions -/
def Passes (CX : CXT) (X : Cx) (E : XK) : Prop := ∀ (pins : List (Addr × Obj)) (σ : St) (H : Hp) (s : Shared) (e : Value) (s' : Shared), Inv X pins σ H s → CX X.stack H s E e s' → X.xe e s'

section
variable {X : Cx} {CX : CXT} {k : Nat} {f C : Addr} {fd : FuncData} {ps : List Str} {sp : Sp} {dvs : List V} {ds : List Value} {E : XK} {x m : Str} {p pos apos : Pos} {e o : Expr} {es : List Expr} {ta : TE} {t : TA}

/-- the callee runs -/
theorem run_fn {pins : List (Addr × Obj)} {σ : St} {H : Hp} {s : Shared} {Q : VK} {us : List Value} {vs : List V} (F : FnOk X.prog X.w X.K X.mg X.base CX k f fd ps sp) (hr : Room k X.A) (hb : Binds X.K fd ps ds) (hd : Vals dvs ds) (hx : Passes CX X E)
    (I : Inv X pins σ H s) (r : Vals vs us) (h : sp (vs ++ dvs) H Q E) : wpAny (model X.prog X.w) X.A (call (.ref f) us) (EP X pins σ Q) X.xe s := by
  have r2 : Vals (vs ++ dvs) (us ++ ds) := r.append hd
  have hl : (us ++ ds).length = ps.length := by rw [← r2.length]; exact F.len _ _ _ _ h
  refine wpAny_call (codeAny_mono (F.run X.A X.stack s H ⟨us, []⟩ (us ++ ds) (vs ++ dvs) Q E hr I.env0 (hb s us I.kIn hl) r2 h) fun r s' hq => ?_)
  cases r with
  | error e => exact hx pins σ H s e s' I hq
  | ok fl =>
    cases fl with
    | ret u => exact I.after hq
    | next => exact False.elim hq
    | brk => exact False.elim hq
    | cont => exact False.elim hq

theorem pe_call (F : FnOk X.prog X.w X.K X.mg X.base CX k f fd ps sp) (hr : Room k X.A) (hg : Gl X x) (hm : X.mg x = some (.ref f)) (hk : PySem.W.keepIn X.K (.ref f) = true) (hb : Binds X.K fd ps ds) (hd : Vals dvs ds) (hx : Passes CX X E)
    (ha : PA X (e :: es) t) (hdb : (x == ("__debug__" : Str)) = false := by decide) (he : starEach (e :: es) X.env = (false, eval e X.env) :: starEach es X.env := by rfl) (hpl : (backTo pos (starEach es X.env)).any (·.1) = false := by rfl) :
    PE X (.Call (.Name x p) (e :: es) [] pos) (tCall sp dvs E t) := by
  intro pins s σ H Q I h
  refine wpAny_Call_Name_kw (ld_glob I hg hm ?_ hdb)
  refine PySem.W.callWith_K (h₀ := X.base) I.ok.mod.kin hk (thn (ha pos pins s σ H _ I h) fun us s1 ⟨vs, H1, I1, r, q⟩ => ⟨I1.kIn, ?_⟩) he hpl
  exact run_fn F hr hb hd hx I1 r q

/-- o.m(e, ..) -/
theorem pe_meth {pl : Sem Bool} (he : PE X o ta) (c : Cls X.K C) (hm : Meth X.K C m f) (F : FnOk X.prog X.w X.K X.mg X.base CX k f fd ps sp) (hr : Room k X.A) (hb : Binds X.K fd ps ds) (hd : Vals dvs ds) (hx : Passes CX X E) (ha : PA X (e :: es) t)
    (hst : starEach (e :: es) X.env = (false, eval e X.env) :: starEach es X.env := by rfl) (hpl : (backTo pos (starEach es X.env)).any (·.1) = false := by rfl)
    (ht : eval (.Call (.Attribute o m apos) (e :: es) [] pos) X.env = (do
      let ov ← eval o X.env
      standAt apos.atName
      let (f, first) ← holding [ov] (getMethod ov m pl)
      callWith pos f first (backTo pos (starEach (e :: es) X.env)) (backToKw pos (keywordEach [] X.env))) := by rfl) :
    PE X (.Call (.Attribute o m apos) (e :: es) [] pos) (tMeth C m sp dvs E ta t) := by
  intro pins s σ H Q I h
  refine PySem.W.methodCall_KW (pl := pl) (thn (he pins s σ H _ I h) fun u s1 ⟨x, H1, I1, rx, a, dx, fs, ex, ea, l, q⟩ => ?_) ht
  subst ex
  obtain rfl : u = Value.ref a := rx
  refine getmeth_ok I1 ea c hm l ?_
  refine PySem.W.callWith_K (first := [.ref a]) (h₀ := X.base) I.ok.mod.kin hm.kp (thn (ha pos pins s1 σ H1 _ I1 q) fun us s2 ⟨vs, H2, I2, r, q2⟩ => ⟨I2.kIn, ?_⟩) hst hpl
  exact run_fn (us := .ref a :: us) (vs := .ref a :: vs) F hr hb hd hx I2 (.cons rfl r) q2
/-- o.m() -/
theorem pe_meth0 {pl : Sem Bool} (he : PE X o ta) (c : Cls X.K C) (hm : Meth X.K C m f) (F : FnOk X.prog X.w X.K X.mg X.base CX k f fd ps sp) (hr : Room k X.A) (hb : Binds X.K fd ps ds) (hd : Vals dvs ds) (hx : Passes CX X E)
    (ht : eval (.Call (.Attribute o m apos) [] [] pos) X.env = (do
      let ov ← eval o X.env
      standAt apos.atName
      let (f, first) ← holding [ov] (getMethod ov m pl)
      callWith pos f first (backTo pos (starEach [] X.env)) (backToKw pos (keywordEach [] X.env))) := by rfl) :
    PE X (.Call (.Attribute o m apos) [] [] pos) (tMeth C m sp dvs E ta tNil) := by
  intro pins s σ H Q I h
  refine PySem.W.methodCall_KW (pl := pl) (thn (he pins s σ H _ I h) fun u s1 ⟨x, H1, I1, rx, a, dx, fs, ex, ea, l, q⟩ => ?_) ht
  subst ex
  obtain rfl : u = Value.ref a := rx
  refine getmeth_ok I1 ea c hm l ?_
  exact PySem.W.callWith_K0 (first := [.ref a]) I1.kIn hm.kp (run_fn (us := [.ref a]) (vs := [.ref a]) F hr hb hd hx I1 (.cons rfl .nil) q)

/-- what a class must have to be made -/
structure Mk (K : PySem.W.Frag) (C f : Addr) : Prop where
  makes : PySem.W.makesIn K C = true
  init : PySem.W.findIn K (.ref C) "__init__" = some (some (.ref f))
  fn : PySem.W.isFn K (.ref f) = true
  kp : PySem.W.keepIn K (.ref C) = true

theorem run_make {pins : List (Addr × Obj)} {σ : St} {H : Hp} {s : Shared} {Q : VK} {us : List Value} {vs : List V} (M : Mk X.K C f) (F : FnOk X.prog X.w X.K X.mg X.base CX k f fd ps sp) (hr : Room (k + 1) X.A) (hb : Binds X.K fd ps ds) (hd : Vals dvs ds)
    (hx : Passes CX X E) (I : Inv X pins σ H s) (r : Vals vs us)
    (h : ∀ x dx, H x = none → H dx = none → dx ≠ x → sp (.ref x :: (vs ++ dvs)) (upd (upd H dx (.own x)) x (.ins C dx [])) (fun v H2 => v = .non ∧ Q (.ref x) H2) E) :
    wpAny (model X.prog X.w) X.A (call (.ref C) us) (EP X pins σ Q) X.xe s := by
  have hq := h (s.heap.objs.size + 1) s.heap.objs.size (I.hok.fresh (Nat.le_succ _)) (I.hok.fresh (Nat.le_refl _)) (Nat.ne_of_lt (Nat.lt_succ_self _))
  have I2 := Inv.made (C := C) I
  have r2 : Vals (V.ref (s.heap.objs.size + 1) :: (vs ++ dvs)) (Value.ref (s.heap.objs.size + 1) :: (us ++ ds)) := .cons rfl (r.append hd)
  have hl : (Value.ref (s.heap.objs.size + 1) :: us ++ ds).length = ps.length := by
    have e := r2.length
    rw [F.len _ _ _ _ hq] at e
    exact e.symm
  refine wpAny_call (make_map (f := f) I.kIn M.makes M.init (beq_iff_eq.mp M.fn) (codeAny_mono (F.run _ X.stack _ _ ⟨Value.ref (s.heap.objs.size + 1) :: us, []⟩ (Value.ref (s.heap.objs.size + 1) :: (us ++ ds)) _ _ E (hr.make C us [])
    (I2.env0.make C us []) (hb _ (Value.ref (s.heap.objs.size + 1) :: us) I2.kIn hl) r2 hq) fun r s' hq' => ?_))
  cases r with
  | error e => exact hx pins σ _ _ e s' I2 hq'
  | ok fl =>
    cases fl with
    | ret u =>
      obtain ⟨v, H', I3, rv, ev, q3⟩ := I2.after hq'
      subst ev
      exact ⟨rv, ⟨V.ref (s.heap.objs.size + 1), H', I3, rfl, q3⟩⟩
    | next => exact False.elim hq'
    | brk => exact False.elim hq'
    | cont => exact False.elim hq'
theorem pe_make (M : Mk X.K C f) (F : FnOk X.prog X.w X.K X.mg X.base CX k f fd ps sp) (hr : Room (k + 1) X.A) (hg : Gl X x) (hm : X.mg x = some (.ref C)) (hb : Binds X.K fd ps ds) (hd : Vals dvs ds) (hx : Passes CX X E)
    (ha : PA X (e :: es) t) (hdb : (x == ("__debug__" : Str)) = false := by decide) (he : starEach (e :: es) X.env = (false, eval e X.env) :: starEach es X.env := by rfl) (hpl : (backTo pos (starEach es X.env)).any (·.1) = false := by rfl) :
    PE X (.Call (.Name x p) (e :: es) [] pos) (tMake C sp dvs E t) := by
  intro pins s σ H Q I h
  refine wpAny_Call_Name_kw (ld_glob I hg hm ?_ hdb)
  refine PySem.W.callWith_K (h₀ := X.base) I.ok.mod.kin M.kp (thn (ha pos pins s σ H _ I h) fun us s1 ⟨vs, H1, I1, r, q⟩ => ⟨I1.kIn, ?_⟩) he hpl
  exact run_make M F hr hb hd hx I1 r q
end

/-! ### keywords -/
section
variable {X : Cx} {CX : CXT} {k : Nat} {f C : Addr} {fd : FuncData} {ps ks : List Str} {sp : Sp} {E : XK} {x m : Str} {p pos apos kpos : Pos} {e o : Expr} {es : List Expr} {kws : List Keyword} {te ta : TE} {t tk : TA} {nm : Option Str}

variable {g : List Value → List Value → List Value} {gV : List V → List V → List V}
end

/-! ### a def's body keeps its promise -/
/-- names: the parameters first -/
structure FnScope (N P : List Str) (sc : Scope) : Prop where
  kind : sc.kind = .function
  co : sc.isCoroutine = false
  gen : sc.isGenerator = false
  nd : N.Nodup
  pre : N.take P.length = P
  par : ∀ x ∈ P, sc.names.lookup x = some .local ∨ sc.names.lookup x = some .cell
  nofree : ∀ y ∈ sc.names, y.2 ≠ .free

theorem bindL_out {kindOf : Str → Option NameKind} {x : Str} : ∀ {binds : List (Str × Value)} {m : Str → Option Value}, (∀ v, (x, v) ∉ binds) → bindL kindOf binds m x = m x
  | [], _, _ => rfl
  | (n, v) :: r, m, h => by
    unfold bindL
    rw [bindL_out fun w hw => h w (List.mem_cons_of_mem _ hw)]
    split
    · have : x ≠ n := by rintro rfl; exact h v List.mem_cons_self
      simp [this]
    · rfl
theorem bindC_out {kindOf : Str → Option NameKind} {x : Str} : ∀ {binds : List (Str × Value)} {m : Str → Option Value}, (∀ v, (x, v) ∉ binds) → bindC kindOf binds m x = m x
  | [], _, _ => rfl
  | (n, v) :: r, m, h => by
    unfold bindC
    rw [bindC_out fun w hw => h w (List.mem_cons_of_mem _ hw)]
    split
    · rfl
    · have : x ≠ n := by rintro rfl; exact h v List.mem_cons_self
      simp [this]
theorem bindL_get {kindOf : Str → Option NameKind} {x : Str} {v : Value} : ∀ {P : List Str} {vs : List Value} {i : Nat} {m : Str → Option Value}, P.Nodup → P[i]? = some x → vs[i]? = some v → kindOf x = some .local →
    bindL kindOf (P.zip vs) m x = some v
  | [], _, _, _, _, h, _, _ => by simp at h
  | _ :: _, [], _, _, _, _, h, _ => by simp at h
  | p :: P, w :: vs, 0, m, nd, h1, h2, hk => by
    simp at h1 h2; subst h1; subst h2
    show bindL kindOf ((p, w) :: P.zip vs) m p = _
    unfold bindL
    rw [bindL_out fun v hv => (List.nodup_cons.mp nd).1 (List.of_mem_zip hv).1, if_pos hk]
    simp
  | p :: P, w :: vs, i + 1, m, nd, h1, h2, hk => by
    show bindL kindOf ((p, w) :: P.zip vs) m x = _
    unfold bindL
    exact bindL_get (i := i) (List.nodup_cons.mp nd).2 (by simpa using h1) (by simpa using h2) hk
theorem bindC_get {kindOf : Str → Option NameKind} {x : Str} {v : Value} : ∀ {P : List Str} {vs : List Value} {i : Nat} {m : Str → Option Value}, P.Nodup → P[i]? = some x → vs[i]? = some v → kindOf x ≠ some .local →
    bindC kindOf (P.zip vs) m x = some v
  | [], _, _, _, _, h, _, _ => by simp at h
  | _ :: _, [], _, _, _, _, h, _ => by simp at h
  | p :: P, w :: vs, 0, m, nd, h1, h2, hk => by
    simp at h1 h2; subst h1; subst h2
    show bindC kindOf ((p, w) :: P.zip vs) m p = _
    unfold bindC
    rw [bindC_out fun v hv => (List.nodup_cons.mp nd).1 (List.of_mem_zip hv).1, if_neg hk]
    simp
  | p :: P, w :: vs, i + 1, m, nd, h1, h2, hk => by
    show bindC kindOf ((p, w) :: P.zip vs) m x = _
    unfold bindC
    exact bindC_get (i := i) (List.nodup_cons.mp nd).2 (by simpa using h1) (by simpa using h2) hk

/-- the names' values at the entry -/
def start (N : List Str) (vs : List V) : St := vs.map some ++ List.replicate (N.length - vs.length) none

/-- the context of a def's body, at its entry; an exception leaves the frame, then lies as CX says -/
def cxOf (CX : CXT) (P : Program) (w : World) (K : PySem.W.Frag) (mg : Str → Option Value) (base : Heap) (N : List Str) (qual : Str) (scope : Scope) (f : Addr) (cd : Value) (A : Around) (outer : List Env) (s : Shared) (H : Hp) (E : XK) : Cx where
  prog := P
  w := w
  K := K
  mg := mg
  base := base
  A := A.deeper (envOfC qual scope s.heap.objs.size f cd)
  N := N
  s_0 := s
  H_0 := H
  env := envOfC qual scope s.heap.objs.size f cd
  outer := outer
  stack := envOfC qual scope s.heap.objs.size f cd :: outer
  ex := []
  calm := true
  fn := fun _ => true
  pn := []
  xe := fun e s' => wpAny (model P w) (A.deeper (envOfC qual scope s.heap.objs.size f cd)) (leaving (envOfC qual scope s.heap.objs.size f cd) e) (fun _ s'' => CX outer H s E e s'') (fun e' s'' => CX outer H s E e' s'') s'

theorem cell_has {sc : Scope} {n : Nat} {x : Str} (h : sc.names.lookup x = some .cell) : ∃ c, (cellsFrom n sc.names []).lookup x = some c := by
  have q := PySem.W.cellsFrom_some sc.names n [] (.inl h)
  exact Option.isSome_iff_exists.mp q

theorem inv_start {CX : CXT} {P : Program} {w : World} {K : PySem.W.Frag} {mg : Str → Option Value} {base : Heap} {N ps : List Str} {qual : Str} {scope : Scope} {f : Addr} {cd : Value} {A : Around} {outer : List Env} {s s1 : Shared} {H : Hp} {E : XK} {us : List Value} {vs : List V}
    (S : FnScope N ps scope) (hd : A.handled = none) (e0 : Env0 P w K mg base A outer s H) (hl : vs.length = ps.length) (r : Vals vs us)
    (x : InCallC s s.heap.objs.size (bindL (envOfC qual scope s.heap.objs.size f cd).kindOf (ps.zip us) fun _ => none) (cellsFrom (s.heap.objs.size + 1) scope.names []) (bindC (envOfC qual scope s.heap.objs.size f cd).kindOf (ps.zip us) fun _ => none) s1) :
    Inv (cxOf CX P w K mg base N qual scope f cd A outer s H E) [] (start N vs) H s1 := by
  have hpl : ps.length ≤ N.length := by have := congrArg List.length S.pre; rw [List.length_take] at this; omega
  obtain ⟨h1, tk, rfl, hk⟩ := x.done
  have noA : ∀ b : Addr, b ∉ (cxOf CX P w K mg base N qual scope f cd A outer s H E).ex := fun b z => absurd (show b ∈ ([] : List Addr) from z) (by simp)
  refine ⟨⟨e0.mod, S.kind, rfl, rfl, Nat.le_refl _, fun y z c h1 h2 => ?_, fun y hy => ?_, fun y c _ h => ?_, fun _ => hd, Around.frames_deeper e0.frames, .inr ⟨rfl, rfl⟩, fun b z => absurd z (noA b), e0.bs, e0.bsz, fun b _ _ => noA b, fun b z => absurd z (noA b), e0.funs, e0.frf⟩,
    rfl, e0.bare, Un.kept hk, ⟨_, x.toInCall.ns, fun i y v h1 h2 h3 => ?_⟩, fun y c h => ⟨_, x.cell y c h⟩, e0.hok.fresh (Nat.le_refl _), fun y c h => ?_, fun p hp => absurd (show p ∈ ([] : List (Addr × Obj)) from hp) (by simp), e0.hok.kept hk, ?_⟩
  · exact name_of_addr x.apart (PySem.mem_of_lookup h1) (PySem.mem_of_lookup h2)
  · have hy : scope.names.lookup y = some .cell ∨ scope.names.lookup y = some .free := hy
    rcases hy with hy | hy
    · exact cell_has hy
    · exact absurd rfl (S.nofree _ (PySem.mem_of_lookup hy))
  · exact Nat.le_of_lt (x.above y c (PySem.mem_of_lookup h))
  · have hi : i < vs.length := by
      unfold start at h2
      by_cases hi : i < vs.length
      · exact hi
      · rw [List.getElem?_append_right (by simpa using hi)] at h2
        rw [List.getElem?_replicate] at h2
        split at h2 <;> cases h2
    have ha : vs[i]? = some v := by
      unfold start at h2
      rw [List.getElem?_append_left (by simpa using hi), List.getElem?_map] at h2
      cases e : vs[i]? with
      | none => rw [e] at h2; cases h2
      | some a => rw [e] at h2; cases h2; rfl
    obtain ⟨u, hu, rv⟩ := r.get ha
    have hp : ps[i]? = some y := by
      rw [← S.pre, List.getElem?_take_of_lt (by omega)]; exact h1
    have ndP : ps.Nodup := by rw [← S.pre]; exact S.nd.sublist (List.take_sublist _ _)
    refine ⟨u, rv, ?_⟩
    rcases S.par y (List.mem_of_getElem? hp) with k | k
    · exact .inl ⟨k, bindL_get ndP hp hu k⟩
    · obtain ⟨c, e⟩ := cell_has (n := s.heap.objs.size + 1) k
      refine .inr ⟨.inl k, c, e, ?_⟩
      have q := x.cell y c e
      rw [bindC_get ndP hp hu (by show scope.names.lookup y ≠ _; rw [k]; decide)] at q
      exact q
  · exact e0.hok.fresh (Nat.le_of_lt (x.above y c (PySem.mem_of_lookup h)))
  · unfold start
    show _ = N.length
    rw [List.length_append, List.length_map, List.length_replicate]
    omega

/-- THE RULE: a def (or a method) of the text, by its body. The body's reading t is chosen for each entry; it is run at the parameters' values -/
theorem fn_of {CX : CXT} {P : Program} {w : World} {K : PySem.W.Frag} {mg : Str → Option Value} {base : Heap} {k : Nat} {f : Addr} {name qual : Str} {params : Arguments} {body : List Stmt} {scope : Scope} {dV kV doc pm cdv ct oc : Value} {an od : Option Addr}
    {osl : Array (Option Value)} {N ps : List Str} {sp : Sp} (lk : K.lookup f = some ⟨oc, od, .func (PySem.W.fnOf name qual params body scope dV kV doc pm an cdv ct), osl⟩) (hcd : PySem.W.codeIn K cdv qual = true) (S : FnScope N ps scope)
    (len : ∀ vs H Q E, sp vs H Q E → vs.length = ps.length)
    (hbody : ∀ (A : Around) (outer : List Env) (s : Shared) (H : Hp) (vs : List V) (Q : VK) (E : XK), Room k (A.deeper (envOfC qual scope s.heap.objs.size f cdv)) → sp vs H Q E →
      ∃ t, PSs (cxOf CX P w K mg base N qual scope f cdv A outer s H E) body t ∧ t { nx := fun _ H' => Q .non H', rt := Q } (start N vs) H) :
    FnOk P w K mg base CX (k + 1) f (PySem.W.fnOf name qual params body scope dV kV doc pm an cdv ct) ps sp := by
  refine ⟨len, fun A outer s H args us vs Q E hr e0 hb r hsp => ?_⟩
  have hl := len _ _ _ _ hsp
  have KX : K.In s.heap := e0.mod.kin.keeps fun b o e => (e0.bs b o e).1
  have lim : s.heap.NoLimit := e0.mod.nolimit.keeps fun b o e => (e0.bs b o e).1
  have hkind : ∀ y ∈ ps.zip us, scope.names.lookup y.1 = some .local ∨ (scope.names.lookup y.1 = some .cell ∧ ((cellsFrom (s.heap.objs.size + 1) scope.names []).lookup y.1).isSome = true) := fun ⟨n, v⟩ hy => by
    rcases S.par n (List.of_mem_zip hy).1 with q | q
    · exact .inl q
    · exact .inr ⟨q, PySem.W.cellsFrom_some _ _ _ (.inl q)⟩
  refine codeAny_call_function hr.depth (KX _ _ lk) rfl S.co S.gen rfl (PySem.W.codeRec_of KX hcd) (hb _ _ _ _ ?_)
  refine wpAny_newFunctionEnv_cells S.kind hkind fun env he s1 x => ?_
  subst he
  refine ⟨lim.keeps x.toInCall.keep, codeAny_func ?_⟩
  obtain ⟨t, ht, hq⟩ := hbody A outer s H vs Q E (hr.deeper _) hsp
  have I : Inv (cxOf CX P w K mg base N qual scope f cdv A outer s H E) [] (start N vs) H s1 := inv_start S hr.hd e0 hl r x
  refine wpAny_mono (ht [] s1 (start N vs) H _ I hq) (fun fl s' hs => ?_) fun e s' hs => hs
  have fin : ∀ {σ' : St} {H' : Hp} {v : V} {u : Value}, Inv (cxOf CX P w K mg base N qual scope f cdv A outer s H E) [] σ' H' s' → RelV v u → Q v H' → CE outer P w H s Q u s' :=
    fun {σ' H' v u} J rv q => ⟨v, H', J.os, J.bare, J.base, J.hok, rv, q⟩
  cases fl with
  | ret u =>
    obtain ⟨v, σ', H', J, rv, q⟩ := hs
    exact fin J rv q
  | next =>
    obtain ⟨σ', H', J, q⟩ := hs
    exact fin (v := V.non) (u := Value.none) J rfl q
  | brk =>
    obtain ⟨_, _, _, q⟩ := hs
    exact False.elim q
  | cont =>
    obtain ⟨_, _, _, q⟩ := hs
    exact False.elim q
end L2

namespace L2
open PySem PySem.Spec PyProof.Rows
section
variable {X : Cx} {x : Str} {p pos : Pos} {e : Expr} {es : List Expr} {t : TA} {id T : String} {r : List V → Hp → VK → Prop}

def tCB (r : List V → Hp → VK → Prop) (t : TA) : TE := fun σ H Q => t σ H fun vs H1 => r vs H1 Q
/-- f(e, ..), f a built-in function -/
theorem pe_callB (hc : CallR X (.builtin id) r) (hg : Gl X x) (hm : X.mg x = none) (hv : bootBuiltins x = some (.builtin id)) (ha : PA X (e :: es) t) (hn : x ≠ "__name__" := by decide) (hdb : (x == ("__debug__" : Str)) = false := by decide)
    (he : starEach (e :: es) X.env = (false, eval e X.env) :: starEach es X.env := by rfl) (hpl : (backTo pos (starEach es X.env)).any (·.1) = false := by rfl) : PE X (.Call (.Name x p) (e :: es) [] pos) (tCB r t) := by
  intro pins s σ H Q I h
  refine wpAny_Call_Name_kw (ld_blt I hg hm hv ?_ hn hdb)
  exact PyProof.Rows.callWith_builtin1 (thn (ha pos pins s σ H _ I h) fun us s1 ⟨vs, H1, I1, r1, q1⟩ => hc pins s1 σ H1 vs us Q I1 r1 q1) he hpl
end
end L2

namespace HT
open PySem PyProof.Rows



section
open PySem.SeqAt
open PySem.AutoSeq1 (wpAny_loadPart')
open PySem.MeetsSeq PySem.MeetsSeq2 PySem.MeetsSeq3

end

section
variable {prog : Program} {w : World} {A : Around} {E : Value → Shared → Prop} {s : Shared}


/-- t + u, t not empty -/
theorem cat_tup {t b : Addr} {vs ws : List Value} {Q : Value → Shared → Prop} (ht : IsTup s.heap t vs.toArray) (hb : IsTup s.heap b ws.toArray) (hv : vs ≠ [])
    (h1 : ws = [] → Q (.ref t) s) (h2 : ws ≠ [] → Q (.ref s.heap.objs.size) { s with heap := s.heap.push { cls := .type "tuple", data := .seq (vs ++ ws).toArray } })
    (hsz : vs.length + ws.length ≤ sizeLine) : wpAny (model prog w) A (binaryOp .Add (.ref t) (.ref b)) Q E s := by
  obtain ⟨⟨cls, dd, data, sl⟩, ho, hc, n, hd⟩ := id ht
  obtain ⟨⟨cls2, dd2, data2, sl2⟩, ho2, hc2, n2, hd2⟩ := id hb
  simp only at hc hd hc2 hd2
  subst hc hd hc2 hd2
  have e : vs.toArray ++ ws.toArray = (vs ++ ws).toArray := by simp
  by_cases hw : ws = []
  · exact concat_meets ⟨_, ho, rfl⟩ ⟨_, ho2, rfl⟩ noFill_tuple_add seq_tuple_add PySem.F.slot_tuple_add PySem.F.entry_tuple_add (PySem.F.args_tuple_add_2 _ _)
      (tuple_addW1 t b vs.toArray ws.toArray n n2 dd dd2 sl sl2 (by simpa using hv) (by simp [hw])) ⟨ho, ho2, h1 hw⟩
  · refine concat_meets ⟨_, ho, rfl⟩ ⟨_, ho2, rfl⟩ noFill_tuple_add seq_tuple_add PySem.F.slot_tuple_add PySem.F.entry_tuple_add (PySem.F.args_tuple_add_2 _ _)
      (tuple_addW2 t b vs.toArray ws.toArray n n2 dd dd2 sl sl2 (by simpa using hv) (by simpa using hw) (by rw [List.size_toArray, List.size_toArray]; exact hsz)) ⟨ho, ho2, ?_⟩
    rw [e]
    exact h2 hw

/-! ### t[a:b], not the whole -/
/-- a slice's bound as a place among n (d where it is left out) -/
def sIx (n d : Nat) : Option Int → Nat
  | none => d
  | some v => if v < 0 then (v + (n : Int)).toNat else min v.toNat n
theorem sIx_nat (n d k : Nat) : sIx n d (some (k : Int)) = min k n := by
  show (if (k : Int) < 0 then ((k : Int) + (n : Int)).toNat else min (k : Int).toNat n) = min k n
  rw [if_neg (by omega), Int.toNat_natCast]
theorem sIx_le (n d : Nat) (hd : d ≤ n) (o : Option Int) : sIx n d o ≤ n := by
  cases o with
  | none => exact hd
  | some v =>
    show (if v < 0 then (v + (n : Int)).toNat else min v.toNat n) ≤ n
    by_cases hv : v < 0
    · rw [if_pos hv]; omega
    · rw [if_neg hv]; exact Nat.min_le_right _ _
theorem clip_eq (v : Int) (n d : Nat) : (if v < 0 then max (v + (n : Int)) 0 else min v (n : Int)) = ((sIx n d (some v) : Nat) : Int) := by
  show (if v < 0 then max (v + (n : Int)) 0 else min v (n : Int)) = (((if v < 0 then (v + (n : Int)).toNat else min v.toNat n) : Nat) : Int)
  by_cases hv : v < 0
  · simp only [if_pos hv]; omega
  · simp only [if_neg hv]; omega
theorem adjust_gen (lo hi : Option Int) (n : Nat) : Builtin.Slice.sliceAdjust lo hi 1 (n : Int) = (((sIx n 0 lo : Nat) : Int), ((sIx n n hi : Nat) : Int)) := by
  have h1 : ¬ ((1 : Int) < 0) := by omega
  unfold Builtin.Slice.sliceAdjust
  simp only [h1, if_false]
  refine Prod.ext ?_ ?_
  · cases lo with
    | none => rfl
    | some v => exact clip_eq v n 0
  · cases hi with
    | none => rfl
    | some v => exact clip_eq v n n
theorem places_gen (i j : Nat) : Builtin.Slice.slicePlaces (i : Int) (j : Int) 1 = j - i := by
  unfold Builtin.Slice.slicePlaces
  have h1 : (1 : Int) > 0 := by omega
  simp only [h1, if_true, Int.ediv_one]
  split <;> omega
theorem slicePart_ {v : Value} {o : Option Int} {Q : Option Int → Shared → Prop} (p : IsPart v o) (h : Q o s) : wpAny (model prog w) A (Builtin.Slice.slicePartIndex v) Q E s := by
  cases p with
  | none => exact slicePart_none h
  | int i t => exact slicePart_int h
theorem sliceApplied_gen {sl : Addr} {vl vu : Value} {lo hi : Option Int} {n : Nat} {Q : Int × Int × Nat → Shared → Prop} (hs : s.heap.IsSliceOf sl vl vu .none) (pl : IsPart vl lo) (pu : IsPart vu hi)
    (h : Q (((sIx n 0 lo : Nat) : Int), 1, sIx n n hi - sIx n 0 lo) s) : wpAny (model prog w) A (Builtin.Slice.sliceApplied (.ref sl) (pure (n : Int))) Q E s := by
  obtain ⟨os, hos, hcs, hds⟩ := id hs
  unfold Builtin.Slice.sliceApplied Builtin.Slice.sliceFields
  refine wpAny_bind (wpAny_bind (wpAny_field hos hds (x := vl) rfl (wpAny_bind (wpAny_field hos hds (x := vu) rfl (wpAny_bind (wpAny_field hos hds (x := .none) rfl (wpAny_pure ?_)))))))
  refine wpAny_bind (slicePart_none ?_)
  show wpAny _ _ (if ((1 : Int) == 0) = true then _ else _) _ _ s
  rw [if_neg (by decide)]
  refine wpAny_bind (slicePart_ pl (wpAny_bind (slicePart_ pu (wpAny_bind (wpAny_pure ?_)))))
  show wpAny _ _ (match Builtin.Slice.sliceAdjust lo hi 1 (n : Int) with | (lo, hi) => pure (lo, (1 : Int), Builtin.Slice.slicePlaces lo hi 1)) _ _ s
  rw [adjust_gen lo hi n]
  show wpAny _ _ (pure (((sIx n 0 lo : Nat) : Int), (1 : Int), Builtin.Slice.slicePlaces ((sIx n 0 lo : Nat) : Int) ((sIx n n hi : Nat) : Int) 1)) _ _ s
  rw [places_gen]
  exact wpAny_pure h
theorem pick_gen (xs : Array Value) (i k : Nat) : ((List.range k).filterMap fun (m : Nat) => xs[((i : Int) + (m : Int) * 1).toNat]?).toArray = ((xs.toList.drop i).take k).toArray := by
  have e : (fun (m : Nat) => xs[((i : Int) + (m : Int) * 1).toNat]?) = fun m => xs[i + m]? := by
    funext m
    have : ((i : Int) + (m : Int) * 1).toNat = i + m := by omega
    rw [this]
  rw [e]
  have := pick_run xs i k
  rw [List.filterMap_map] at this
  have e2 : ((fun x => xs[x]?) ∘ fun x => i + x) = fun m => xs[i + m]? := rfl
  rw [e2] at this
  rw [this]

theorem getItem_tuple_cut {t sl : Addr} {items : Array Value} {vl vu : Value} {lo hi : Option Int} {Q : Value → Shared → Prop} (ht : IsTup s.heap t items) (hs : s.heap.IsSliceOf sl vl vu .none) (pl : IsPart vl lo) (pu : IsPart vu hi)
    (hw : ¬ (sIx items.size 0 lo = 0 ∧ sIx items.size items.size hi = items.size))
    (h : Q (.ref s.heap.objs.size) { s with heap := s.heap.push { cls := .type "tuple", data := .seq ((items.toList.drop (sIx items.size 0 lo)).take (sIx items.size items.size hi - sIx items.size 0 lo)).toArray } })
    (hsz : items.size ≤ sizeLine) : wpAny (model prog w) A (getItem (.ref t) (.ref sl)) Q E s := by
  have htake : sizeOk (.seq ((items.toList.drop (sIx items.size 0 lo)).take (sIx items.size items.size hi - sIx items.size 0 lo)).toArray) := by
    show ((items.toList.drop (sIx items.size 0 lo)).take (sIx items.size items.size hi - sIx items.size 0 lo)).toArray.size ≤ sizeLine
    rw [List.size_toArray, List.length_take, List.length_drop, Array.length_toList]
    omega
  have hj : sIx items.size items.size hi ≤ items.size := sIx_le _ _ (Nat.le_refl _) hi
  obtain ⟨os, hos, hcs, hds⟩ := id hs
  have hTs : s.TypeIs (.ref sl) "slice" := ⟨os, hos, hcs⟩
  unfold getItem
  try with_reducible refine wpAny_holding ?_
  first | refine wpAny_bind (wpAny_pure ?_) | skip
  refine wpAny_bind (wpAny_sequenceKey ht.typeIs (by decide) ?_)
  refine wpAny_bind (wpAny_callSpecial?_slot (name := Str.ofString "__getitem__") ht.typeIs PyProof.Rows.slot_tuple_getitem
    (wpAny_call_entry PyProof.Rows.slot_tuple_getitem ht.typeIs entry_tuple_getitem ?_ (args_tuple_getitem _ _)))
  show wpAny _ _ (Builtin.Tuple.tupleItemsOf (.ref t) >>= _) _ _ s
  refine wpAny_bind (tupleItemsOf_ ht ?_)
  refine wpAny_bind (wpAny_typeOf hTs ?_)
  rw [if_pos (by decide)]
  refine wpAny_bind (sliceApplied_gen hs pl pu ?_)
  have hno : ¬ ((((sIx items.size 0 lo : Nat) : Int) == 0 && (1 : Int) == 1 && (sIx items.size items.size hi - sIx items.size 0 lo) == items.size) = true) := by
    intro q
    rw [Bool.and_eq_true, Bool.and_eq_true] at q
    have q1 : ((sIx items.size 0 lo : Nat) : Int) = 0 := eq_of_beq q.1.1
    have q2 : sIx items.size items.size hi - sIx items.size 0 lo = items.size := eq_of_beq q.2
    exact hw ⟨by omega, by omega⟩
  show wpAny _ _ (if (((sIx items.size 0 lo : Nat) : Int) == 0 && (1 : Int) == 1 && (sIx items.size items.size hi - sIx items.size 0 lo) == items.size) = true then _ else _) _ _ s
  rw [if_neg hno, pick_gen]
  first
    | exact wpAny_bind (m := Builtin.Tuple.tupleExact _) (wpAny_newObj_type (wpAny_pure ⟨_, rfl, wpAny_pure h⟩) htake)
    | exact wpAny_bind (m := Builtin.Tuple.tupleExact _) (wpAny_newObj_type (wpAny_bind (wpAny_pure (wpAny_pure ⟨_, rfl, wpAny_pure h⟩))) htake)
    | exact wpAny_bind (wpAny_bind (m := Builtin.Tuple.tupleExact _) (wpAny_newObj_type (wpAny_pure (wpAny_pure ⟨_, rfl, wpAny_pure h⟩)) htake))
    | exact wpAny_bind (wpAny_bind (m := Builtin.Tuple.tupleExact _) (wpAny_newObj_type (wpAny_pure ⟨_, rfl, wpAny_pure h⟩) htake))
end
end HT

namespace L2
open PySem PySem.Spec PyProof.Rows

/-! ### the parts of a slice -/
abbrev TO := St → Hp → (Option Int → Hp → Prop) → Prop
/-- a slice's part (left out, or an int) -/
def PO (X : Cx) (e : Option Expr) (t : TO) : Prop :=
  ∀ (pins : List (Addr × Obj)) (s : Shared) (σ : St) (H : Hp) (Q : Option Int → Hp → Prop), Inv X pins σ H s → t σ H Q →
    wpAny (model X.prog X.w) X.A (evalPart e X.env) (fun u s' => ∃ o H', Inv X pins σ H' s' ∧ IsPart u o ∧ Q o H') X.xe s
def tNoPart : TO := fun _ H Q => Q none H
def tPart (t : TE) : TO := fun σ H Q => t σ H fun x H1 => ∃ i, x = .int i ∧ Q (some i) H1

theorem intsAre_of {ns : List Int} : ∀ {us : List Value}, Vals (ns.map V.int) us → IntsAre us ns := by
  induction ns with
  | nil => intro us r; rw [List.map_nil] at r; cases r; exact .nil
  | cons n ns ih =>
    intro us r
    rw [List.map_cons] at r
    cases r with
    | cons r1 r2 =>
      obtain ⟨t, e⟩ := r1
      subst e
      exact .cons n t (ih r2)

section
variable {X : Cx} {e : Expr} {te : TE} {lo hi : Option Expr} {tl th : TO} {pos p2 : Pos}

theorem po_none : PO X none tNoPart := by
  intro pins s σ H Q I h
  rw [evalPart_none]
  exact wpAny_pure ⟨none, H, I, .none, h⟩
theorem po_some (h : PE X e te) : PO X (some e) (tPart te) := by
  intro pins s σ H Q I hw
  rw [evalPart_some]
  refine thn (h pins s σ H _ I hw) fun u s1 ⟨x, H1, I1, r1, q1⟩ => ?_
  obtain ⟨i, rfl, q⟩ := q1
  obtain ⟨t, rfl⟩ := r1
  exact ⟨some i, H1, I1, .int i t, q⟩

/-- what a slice of a value is, by values: the slice object stands at sl -/
def SlR (X : Cx) (r : V → Option Int → Option Int → Hp → VK → Prop) : Prop :=
  ∀ (pins : List (Addr × Obj)) (s : Shared) (σ : St) (H : Hp) (x : V) (v vl vu : Value) (lo hi : Option Int) (sl : Addr) (Q : VK), Inv X pins σ H s → RelV x v → s.heap.IsSliceOf sl vl vu .none → IsPart vl lo → IsPart vu hi → r x lo hi H Q →
    ∃ T id, typeLookup (.type T) "__getitem__" = pure (some (.builtin id)) ∧ s.TypeIs v T ∧ wpAny (model X.prog X.w) X.A (getItem v (.ref sl)) (EP X pins σ Q) X.xe s
def tSl (r : V → Option Int → Option Int → Hp → VK → Prop) (te : TE) (tl th : TO) : TE := fun σ H Q => te σ H fun x H1 => tl σ H1 fun l H2 => th σ H2 fun u H3 => r x l u H3 Q
/-- a[lo:hi], any a -/
theorem pe_slice {r : V → Option Int → Option Int → Hp → VK → Prop} (hr : SlR X r) (he : PE X e te) (hl : PO X lo tl) (hu : PO X hi th) : PE X (.Subscript e (.Slice lo hi none p2) pos) (tSl r te tl th) := by
  intro pins s σ H Q I h
  refine Subscript_ (thn (he pins s σ H _ I h) fun v s1 ⟨x, H1, I1, r1, q1⟩ => ?_)
  refine wpAny_Slice (thn (hl pins s1 σ H1 _ I1 q1) fun vl s2 ⟨l, H2, I2, pl, q2⟩ => thn (hu pins s2 σ H2 _ I2 q2) fun vu s3 ⟨u, H3, I3, pu, q3⟩ => ?_)
  rw [evalPart_none]
  refine wpAny_pure ?_
  have I4 : Inv X pins σ H3 { s3 with heap := s3.heap.push { cls := .type "slice", data := .fields #[vl, vu, .none] } } := I3.kept (t' := s3.toks) fun b ob q => Heap.get?_push_of_some _ q
  obtain ⟨T, id, hT, ht, hg⟩ := hr pins { s3 with heap := s3.heap.push { cls := .type "slice", data := .fields #[vl, vu, .none] } } σ H3 x v vl vu l u s3.heap.objs.size Q I4 r1 (Heap.IsSliceOf.new ..) pl pu q3
  show wpAny (model X.prog X.w) X.A (subscriptTail e (.Slice lo hi none p2) v (.ref s3.heap.objs.size)) (EP X pins σ Q) X.xe { s3 with heap := s3.heap.push { cls := .type "slice", data := .fields #[vl, vu, .none] } }
  exact tail_any (ops := [.ref s3.heap.objs.size, v]) ht hT hg (by with_unfolding_all rfl)

/-- the items of xs[lo:hi] -/
def cutV (xs : List V) (lo hi : Option Int) : List V := (xs.drop (HT.sIx xs.length 0 lo)).take (HT.sIx xs.length xs.length hi - HT.sIx xs.length 0 lo)
theorem cutV_length (xs : List V) (lo hi : Option Int) : (cutV xs lo hi).length ≤ xs.length := by
  unfold cutV
  rw [List.length_take, List.length_drop]
  omega
/-- t[lo:hi], not the whole of it (the whole would be t itself) -/
def rSlT (K : PySem.W.Frag) : V → Option Int → Option Int → Hp → VK → Prop := fun x lo hi H Q => ∃ a xs, x = .ref a ∧ SqT K H a xs ∧
  ¬ (HT.sIx xs.length 0 lo = 0 ∧ HT.sIx xs.length xs.length hi = xs.length) ∧ ∀ p, H p = none → Q (.ref p) (upd H p (.tup (cutV xs lo hi)))
theorem sl_tup : SlR X (rSlT X.K) := by
  intro pins s σ H x v vl vu lo hi sl Q I rx hs pl pu h
  obtain ⟨a, xs, rfl, hx, hw, q⟩ := h
  cases rx
  obtain ⟨its, r, ht, hz⟩ := I.tuple hx
  have hlen : its.toArray.size = xs.length := by rw [List.size_toArray]; exact r.length.symm
  refine ⟨"tuple", _, PyProof.Rows.slot_tuple_getitem.lookup, ht.typeIs, ?_⟩
  refine HT.getItem_tuple_cut ht hs pl pu (by rw [hlen]; exact hw) ?_ (by rw [hlen]; exact hz)
  rw [hlen]
  refine ⟨.ref s.heap.objs.size, _, I.laid (t' := s.toks) (o := .tup (cutV xs lo hi)) (fun b ob q => Heap.get?_push_of_some _ q) (Nat.le_refl _) ?_, rfl, q _ (I.hok.fresh (Nat.le_refl _))⟩
  exact ⟨Nat.le_trans (cutV_length xs lo hi) hz, _, (r.drop (HT.sIx xs.length 0 lo)).take (HT.sIx xs.length xs.length hi - HT.sIx xs.length 0 lo), IsTup.new _ _⟩

/-! ### t < u, t + u -/
/-- t + u, t not empty: u empty gives t itself -/
def rCatT (K : PySem.W.Frag) : R2 := fun x y H Q => ∃ a b xs ys, x = .ref a ∧ y = .ref b ∧ SqT K H a xs ∧ SqT K H b ys ∧ xs ≠ [] ∧ xs.length + ys.length ≤ sizeLine ∧
  (ys = [] → Q (.ref a) H) ∧ (ys ≠ [] → ∀ p, H p = none → Q (.ref p) (upd H p (.tup (xs ++ ys))))
theorem Vals.nil_iff {xs : List V} {us : List Value} (r : Vals xs us) : us = [] ↔ xs = [] := by
  cases r with
  | nil => simp
  | cons _ _ => simp
theorem op_catT : OpR X (binaryOp .Add) (rCatT X.K) := by
  intro pins s σ H x y v u Q I rx ry h
  obtain ⟨a, b, xs, ys, rfl, rfl, ha, hb, hx, hz, q1, q2⟩ := h
  cases rx
  cases ry
  obtain ⟨its, r1, p1, _⟩ := I.tuple ha
  obtain ⟨its2, r2, p2, _⟩ := I.tuple hb
  refine HT.cat_tup p1 p2 (fun z => hx (r1.nil_iff.mp z)) (fun z => ⟨.ref a, H, I, rfl, q1 (r2.nil_iff.mp z)⟩) (fun z => ?_) (by rw [← r1.length, ← r2.length]; exact hz)
  refine ⟨.ref s.heap.objs.size, _, I.laid (t' := s.toks) (o := .tup (xs ++ ys)) (fun b ob q => Heap.get?_push_of_some _ q) (Nat.le_refl _) ?_, rfl, q2 (fun w => z (r2.nil_iff.mpr w)) _ (I.hok.fresh (Nat.le_refl _))⟩
  exact ⟨by rw [List.length_append]; exact hz, _, r1.append r2, IsTup.new _ _⟩
end
end L2

namespace L2
open PySem PySem.Spec PyProof.Rows

/-! ### places -/
/-- the place that an index of any sign means -/
def ixN (n : Nat) (i : Int) : Option Nat := if 0 ≤ i then (if i < n then some i.toNat else none) else if -(n : Int) ≤ i then some (i + n).toNat else none
def atI {α : Type} (xs : List α) (i : Int) : Option α := (ixN xs.length i).bind fun j => xs[j]?
theorem ixN_seq {n : Nat} {i : Int} {j : Nat} (h : ixN n i = some j) : seqIndex? i n = some j ∧ j < n ∧ -(n : Int) ≤ i ∧ i < n := by
  unfold ixN at h
  by_cases h0 : 0 ≤ i
  · rw [if_pos h0] at h
    by_cases h1 : i < n
    · rw [if_pos h1] at h
      have e : i.toNat = j := Option.some.inj h
      exact ⟨by rw [seqIndex_of h0 h1, e], by omega, by omega, h1⟩
    · rw [if_neg h1] at h; cases h
  · rw [if_neg h0] at h
    by_cases h1 : -(n : Int) ≤ i
    · rw [if_pos h1] at h
      have e : (i + n).toNat = j := Option.some.inj h
      exact ⟨by rw [seqIndex_neg (by omega) h1, e], by omega, h1, by omega⟩
    · rw [if_neg h1] at h; cases h
theorem atI_get {α : Type} {xs : List α} {i : Int} {v : α} (h : atI xs i = some v) : ∃ j, seqIndex? i xs.length = some j ∧ xs[j]? = some v ∧ j < xs.length ∧ -(xs.length : Int) ≤ i ∧ i < xs.length := by
  unfold atI at h
  cases e : ixN xs.length i with
  | none => rw [e] at h; cases h
  | some j =>
    rw [e] at h
    obtain ⟨h1, h2, h3, h4⟩ := ixN_seq e
    exact ⟨j, h1, h, h2, h3, h4⟩
theorem atI_nat {α : Type} {xs : List α} {j : Nat} {v : α} (h : xs[j]? = some v) : atI xs (j : Int) = some v := by
  have hj : j < xs.length := (List.getElem?_eq_some_iff.mp h).1
  have e : ixN xs.length (j : Int) = some j := by
    unfold ixN
    rw [if_pos (by omega), if_pos (by omega)]; simp
  unfold atI; rw [e]; exact h
theorem atI_last {α : Type} (xs : List α) (v : α) : atI (xs ++ [v]) (-1) = some v := by
  have hl : (xs ++ [v]).length = xs.length + 1 := by simp
  have e : ixN (xs ++ [v]).length (-1) = some xs.length := by
    unfold ixN
    rw [hl, if_neg (by decide), if_pos (by omega)]
    congr 1
    omega
  unfold atI
  rw [e]
  show (xs ++ [v])[xs.length]? = some v
  simp

/-! ### what may be subscripted -/
/-- what stands as an index of a plain subscript -/
def PlainIx (b : Expr) : Prop := ∀ o i, subscripted b false o i = operate [o, i] (getItem o i)
/-- a subscript by values -/
def IxR (X : Cx) (r : R2) : Prop :=
  ∀ (value slice : Expr) (pins : List (Addr × Obj)) (s : Shared) (σ : St) (H : Hp) (x y : V) (v u : Value) (Q : VK), Inv X pins σ H s → RelV x v → RelV y u → r x y H Q →
    subscripted slice false v u = operate [v, u] (getItem v u) → wpAny (model X.prog X.w) X.A (subscriptTail value slice v u) (EP X pins σ Q) X.xe s
/-- a call of a builtin's method by values: the receiver, the arguments -/
def MtR (X : Cx) (id : String) (r : V → List V → Hp → VK → Prop) : Prop :=
  ∀ (pins : List (Addr × Obj)) (s : Shared) (σ : St) (H : Hp) (x : V) (xs : List V) (v : Value) (us : List Value) (Q : VK), Inv X pins σ H s → RelV x v → Vals xs us → r x xs H Q →
    wpAny (model X.prog X.w) X.A (call (.builtin id) (v :: us)) (EP X pins σ Q) X.xe s
section
variable {X : Cx} {a b : Expr} {ta tb : TE} {pos : Pos}
/-- a[b] -/
theorem pe_ix {r : R2} (hr : IxR X r) (ha : PE X a ta) (hb : PE X b tb) (hs : PlainIx b) : PE X (.Subscript a b pos) (tOp r ta tb) := by
  intro pins s σ H Q I h
  exact Subscript_ (binT ha hb I h fun v u s2 x y H2 I2 rx ry q => hr a b pins s2 σ H2 x y v u Q I2 rx ry q (hs _ _))

def rIxL (K : PySem.W.Frag) : R2 := fun x y H Q => ∃ p xs i v, x = .ref p ∧ y = .int i ∧ SqL K H p xs ∧ atI xs i = some v ∧ Q v H
def rIxT (K : PySem.W.Frag) : R2 := fun x y H Q => ∃ p xs i v, x = .ref p ∧ y = .int i ∧ SqT K H p xs ∧ atI xs i = some v ∧ Q v H
theorem ix_list : IxR X (rIxL X.K) := by
  intro value slice pins s σ H x y v u Q I rx ry h hs
  obtain ⟨p, xs, i, z, rfl, rfl, hq, he, q⟩ := h
  cases rx
  obtain ⟨t, rfl⟩ := ry
  obtain ⟨its, r, pl, hz⟩ := I.list hq
  obtain ⟨j, h1, h2, h3, h4, h5⟩ := atI_get he
  obtain ⟨w, ew, rw'⟩ := r.get h2
  have hl := r.length
  have hn := line63
  have fin : EP X pins σ Q w s := ⟨z, H, I, rw', q⟩
  by_cases h0 : 0 ≤ i
  · have hj : i.toNat = j := by
      rw [seqIndex_of h0 h5] at h1
      exact Option.some.inj h1
    exact item_listR pl.isList h0 (by omega) (by rw [hj]; simpa using ew) fin hs
  · have hj : (i + (its.toArray.size : Int)).toNat = j := by
      rw [seqIndex_neg (by omega) h4] at h1
      rw [List.size_toArray, ← hl]
      exact Option.some.inj h1
    exact subscriptTail_builtinR (x := w) pl.isList.typeIs slot_list_getitem.lookup
      (wpAny_getItem_list_neg (Q := fun r s' => r = w ∧ EP X pins σ Q r s') pl.isList (by omega) (by rw [List.size_toArray] <;> omega) (by omega) (by rw [hj]; simpa using ew) ⟨rfl, fin⟩) hs
theorem ix_tup : IxR X (rIxT X.K) := by
  intro value slice pins s σ H x y v u Q I rx ry h hs
  obtain ⟨p, xs, i, z, rfl, rfl, hq, he, q⟩ := h
  cases rx
  obtain ⟨t, rfl⟩ := ry
  obtain ⟨its, r, pl, hz⟩ := I.tuple hq
  obtain ⟨j, h1, h2, h3, h4, h5⟩ := atI_get he
  obtain ⟨w, ew, rw'⟩ := r.get h2
  have hl := r.length
  have hn := line63
  have fin : EP X pins σ Q w s := ⟨z, H, I, rw', q⟩
  exact subscriptTail_builtinR (x := w) pl.typeIs slot_tuple_getitem.lookup
    (getItem_tuple (j := j) (Q := fun r s' => r = w ∧ EP X pins σ Q r s') pl (by omega) (by omega) (by rw [List.size_toArray, ← hl]; exact h1) (by simpa using ew) ⟨rfl, fin⟩) hs

/-! ### xs[i] = v, any sign -/

/-! ### slices -/
theorem slice_bounds (lo hi : Option Int) (n : Nat) : (sliceBounds lo hi none n).1 = ((HT.sIx n 0 lo : Nat) : Int) ∧ (sliceBounds lo hi none n).2.1 = ((HT.sIx n n hi : Nat) : Int) ∧ (sliceBounds lo hi none n).2.2 = 1 := by
  refine ⟨?_, ?_, rfl⟩
  · cases lo with
    | none => simp [sliceBounds, HT.sIx]
    | some i =>
      simp only [sliceBounds, HT.sIx, Option.getD_none, show (1 : Int) > 0 by decide, if_true]
      by_cases h : i < 0
      · simp only [h, if_true] <;> omega
      · simp only [h, if_false] <;> omega
  · cases hi with
    | none => simp [sliceBounds, HT.sIx]
    | some i =>
      simp only [sliceBounds, HT.sIx, Option.getD_none, show (1 : Int) > 0 by decide, if_true]
      by_cases h : i < 0
      · simp only [h, if_true] <;> omega
      · simp only [h, if_false] <;> omega
theorem slicePick_cut (its : List Value) (lo hi : Option Int) : slicePick its.toArray lo hi none = ((its.drop (HT.sIx its.length 0 lo)).take (HT.sIx its.length its.length hi - HT.sIx its.length 0 lo)).toArray := by
  obtain ⟨h1, h2, h3⟩ := slice_bounds lo hi its.toArray.size
  unfold slicePick
  rw [h1, h2, h3]
  simp only [sliceRange_one, pick_run, List.size_toArray] <;> rfl
/-- xs[lo:hi] of a list: a new list -/
def rSlL (K : PySem.W.Frag) : V → Option Int → Option Int → Hp → VK → Prop := fun x lo hi H Q => ∃ a xs, x = .ref a ∧ SqL K H a xs ∧ ∀ p, H p = none → Q (.ref p) (upd H p (.lst (cutV xs lo hi)))
theorem sl_list : SlR X (rSlL X.K) := by
  intro pins s σ H x v vl vu lo hi sl Q I rx hs pl pu h
  obtain ⟨a, xs, rfl, hx, q⟩ := h
  cases rx
  obtain ⟨its, r, ht, hz⟩ := I.list hx
  have hlen := r.length
  refine ⟨"list", _, slot_list_getitem.lookup, ht.isList.typeIs, ?_⟩
  refine wpAny_getItem_list_slice ht.isList hs pl pu .none (by simp) ?_ (by rw [List.size_toArray] <;> omega)
  rw [slicePick_cut, ← hlen]
  refine ⟨.ref s.heap.objs.size, _, I.laid (t' := s.toks) (o := .lst (cutV xs lo hi)) (fun b ob q => Heap.get?_push_of_some _ q) (Nat.le_refl _) ?_, rfl, q _ (I.hok.fresh (Nat.le_refl _))⟩
  exact ⟨Nat.le_trans (cutV_length xs lo hi) hz, _, 0, (r.drop (HT.sIx xs.length 0 lo)).take (HT.sIx xs.length xs.length hi - HT.sIx xs.length 0 lo), Heap.get?_push_size _ rfl⟩

/-! ### in, not in: flat items -/
def flatV : V → Bool
  | .non => true
  | .bl _ => true
  | .int _ => true
  | .str _ => true
  | _ => false
/-- == of flat values -/
def eqV : V → V → Bool
  | .non, .non => true
  | .bl a, .bl b => a == b
  | .bl a, .int b => (if a then 1 else 0) == b
  | .int a, .bl b => a == (if b then 1 else 0)
  | .int a, .int b => a == b
  | .str a, .str b => a == b
  | _, _ => false
theorem eqAt_V {A : Around} {s : Shared} {y x : V} {u v : Value} (ry : RelV y u) (rx : RelV x v) (fy : flatV y = true) (fx : flatV x = true) : SeqAt.EqAt A s u v (eqV y x) := by
  cases y with
  | non =>
    cases ry
    cases x with
    | non => cases rx; exact SeqAt.EqAt.same _
    | bl b => cases rx; exact SeqAt.EqAt.none_bool b
    | int b => obtain ⟨t, rfl⟩ := rx; exact SeqAt.EqAt.none_int b t
    | str b => obtain ⟨t, rfl⟩ := rx; exact SeqAt.EqAt.none_str b t
    | _ => exact absurd (show false = true from fx) Bool.false_ne_true
  | bl a =>
    cases ry
    cases x with
    | non => cases rx; exact SeqAt.EqAt.bool_none a
    | bl b => cases rx; exact SeqAt.EqAt.bool_bool a b
    | int b => obtain ⟨t, rfl⟩ := rx; exact SeqAt.EqAt.bool_int a b t
    | str b => obtain ⟨t, rfl⟩ := rx; exact SeqAt.EqAt.bool_str a b t
    | _ => exact absurd (show false = true from fx) Bool.false_ne_true
  | int a =>
    obtain ⟨t', rfl⟩ := ry
    cases x with
    | non => cases rx; exact SeqAt.EqAt.int_none a t'
    | bl b => cases rx; exact SeqAt.EqAt.int_bool a t' b
    | int b => obtain ⟨t, rfl⟩ := rx; exact SeqAt.EqAt.int_int a t' b t
    | str b => obtain ⟨t, rfl⟩ := rx; exact SeqAt.EqAt.int_str a t' b t
    | _ => exact absurd (show false = true from fx) Bool.false_ne_true
  | str a =>
    obtain ⟨t', rfl⟩ := ry
    cases x with
    | non => cases rx; exact SeqAt.EqAt.str_none a t'
    | bl b => cases rx; exact SeqAt.EqAt.str_bool a t' b
    | int b => obtain ⟨t, rfl⟩ := rx; exact SeqAt.EqAt.str_int a t' b t
    | str b => obtain ⟨t, rfl⟩ := rx; exact SeqAt.EqAt.str_str a t' b t
    | _ => exact absurd (show false = true from fx) Bool.false_ne_true
  | _ => exact absurd (show false = true from fy) Bool.false_ne_true
/-- the items' answers, read off the values (a value's own answer does not lean on its token) -/
def eqU (x : V) (u : Value) : Bool := match u with
  | .none => eqV .non x
  | .bool b => eqV (.bl b) x
  | .int i _ => eqV (.int i) x
  | .str z _ => eqV (.str z) x
  | _ => false
theorem eqU_of {x y : V} {u : Value} (r : RelV y u) (f : flatV y = true) : eqU x u = eqV y x := by
  cases y with
  | non => cases r; rfl
  | bl b => cases r; rfl
  | int i => obtain ⟨t, rfl⟩ := r; rfl
  | str z => obtain ⟨t, rfl⟩ := r; rfl
  | _ => exact absurd (show false = true from f) Bool.false_ne_true
theorem any_eqU {x : V} : ∀ {xs : List V} {us : List Value}, Vals xs us → xs.all flatV = true → us.any (eqU x) = xs.any fun y => eqV y x
  | _, _, .nil, _ => rfl
  | y :: xs, u :: us, .cons r t, f => by
    rw [List.all_cons, Bool.and_eq_true] at f
    rw [List.any_cons, List.any_cons, eqU_of r f.1, any_eqU t f.2]
theorem mem_eqAt {A : Around} {s : Shared} {x : V} {v : Value} (rx : RelV x v) (fx : flatV x = true) : ∀ {xs : List V} {us : List Value}, Vals xs us → xs.all flatV = true → ∀ u ∈ us, SeqAt.EqAt A s u v (eqU x u)
  | _, _, .nil, _ => fun u hu => by cases hu
  | y :: xs, u :: us, .cons r t, f => fun u' hu => by
    rw [List.all_cons, Bool.and_eq_true] at f
    rcases List.mem_cons.mp hu with rfl | hu
    · rw [eqU_of r f.1]; exact eqAt_V r rx f.1 fx
    · exact mem_eqAt rx fx t f.2 u' hu
def inV (x : V) (xs : List V) : Bool := xs.any fun y => eqV y x
/-- x in a list or tuple of flat items -/
def rIn (K : PySem.W.Frag) (neg : Bool) : R2 := fun x y H Q => ∃ p xs, y = .ref p ∧ (SqL K H p xs ∨ SqT K H p xs) ∧ flatV x = true ∧ xs.all flatV = true ∧ Q (.bl (if neg then !inV x xs else inV x xs)) H
theorem op_in_seq : OpR X (compareOp .In) (rIn X.K false) := by
  intro pins s σ H x y v u Q I rx ry h
  obtain ⟨p, xs, rfl, hq, fx, fs, q⟩ := h
  cases ry
  rcases hq with hq | hq
  · obtain ⟨its, r, pl, hz⟩ := I.list hq
    refine SeqAt.in_listAt (eqU x) pl.isList (fun w hw => mem_eqAt rx fx r fs w (by simpa using hw)) ⟨.bl _, H, I, rfl, ?_⟩
    rw [show its.toArray.any (eqU x) = its.any (eqU x) by simp, any_eqU r fs]
    exact q
  · obtain ⟨its, r, pl, hz⟩ := I.tuple hq
    refine SeqAt.in_tupleAt (eqU x) pl (fun w hw => mem_eqAt rx fx r fs w (by simpa using hw)) ⟨.bl _, H, I, rfl, ?_⟩
    rw [show its.toArray.any (eqU x) = its.any (eqU x) by simp, any_eqU r fs]
    exact q

/-! ### len, list(x), tuple(x) of any list or tuple that is read -/
theorem call_len_seq : CallR X (.builtin "len") (fun xs H Q => ∃ p ys, xs = [.ref p] ∧ (SqL X.K H p ys ∨ SqT X.K H p ys) ∧ Q (.int ys.length) H) := by
  intro pins s σ H xs us Q I r h
  obtain ⟨p, ys, rfl, hq, q⟩ := h
  obtain ⟨u, rfl, rx⟩ := vals1 r
  cases rx
  have hn := line63
  rcases hq with hq | hq
  · obtain ⟨its, r', pl, hz⟩ := I.list hq
    have hlen := r'.length
    exact Calls.call_len_list pl.isList (by simp only [List.size_toArray] <;> omega) ⟨.int ys.length, H, I.tok _, ⟨s.toks + 1, by rw [List.size_toArray, hlen]⟩, q⟩
  · obtain ⟨its, r', pl, hz⟩ := I.tuple hq
    have hlen := r'.length
    exact len_tuple pl (by simp only [List.size_toArray] <;> omega) ⟨.int ys.length, H, I.tok _, ⟨s.toks + 1, by rw [List.size_toArray, hlen]⟩, q⟩

/-! ### the call of a builtin's method: o.m(..) -/
/-- the value is of that builtin type -/
def tyV (K : PySem.W.Frag) (T : String) (x : V) (H : Hp) : Prop := match x with
  | .str _ => T = "str"
  | .int _ => T = "int"
  | .ref p => (T = "list" ∧ ∃ xs, SqL K H p xs) ∨ (T = "tuple" ∧ ∃ o, K.lookup p = some o ∧ o.cls = .type "tuple" ∧ o.dict = none) ∨
      (T = "dict" ∧ ((∃ kvs, H p = some (.dK kvs)) ∨ ∃ kvs, H p = some (.dT kvs))) ∨ (T = "set" ∧ ∃ S n, H p = some (.set S n))
  | _ => False
theorem tyV_is {pins : List (Addr × Obj)} {σ : St} {H : Hp} {s : Shared} {T : String} {x : V} {v : Value} (I : Inv X pins σ H s) (r : RelV x v) (ty : tyV X.K T x H) :
    s.TypeIs v T ∧ ∀ a, v = .ref a → ∃ ob, s.heap.get? a = some ob ∧ ob.dict = none := by
  cases x with
  | str z =>
    obtain ⟨t, rfl⟩ := r
    cases (show T = "str" from ty)
    exact ⟨typeIs_str s z t, fun _ e => nomatch e⟩
  | int i =>
    obtain ⟨t, rfl⟩ := r
    cases (show T = "int" from ty)
    exact ⟨typeIs_int s i t, fun _ e => nomatch e⟩
  | ref p =>
    cases r
    rcases ty with ⟨rfl, xs, hq⟩ | ⟨rfl, o, hk, hc, hd⟩ | ⟨rfl, hk⟩ | ⟨rfl, S, n, hk⟩
    · obtain ⟨its, _, pl, _⟩ := I.list hq
      refine ⟨pl.isList.typeIs, fun a e => ?_⟩
      cases e
      obtain ⟨o, n, e, c, hd, _⟩ := pl
      exact ⟨o, e, hd⟩
    · refine ⟨⟨o, I.kIn p o hk, hc⟩, fun a e => ?_⟩
      cases e
      exact ⟨o, I.kIn _ o hk, hd⟩
    · have z : ∃ o, s.heap.get? p = some o ∧ o.ExactDict := by
        rcases hk with ⟨kvs, hk⟩ | ⟨kvs, hk⟩
        · obtain ⟨_, _, _, _, o, _, _, e, ex, _⟩ := I.hok p _ hk
          exact ⟨o, e, ex⟩
        · obtain ⟨_, _, _, _, o, _, _, e, ex, _⟩ := I.hok p _ hk
          exact ⟨o, e, ex⟩
      obtain ⟨o, e, ex⟩ := z
      refine ⟨⟨o, e, ex.1⟩, fun a e2 => ?_⟩
      cases e2
      exact ⟨o, e, ex.2.1⟩
    · obtain ⟨o, _, _, _, e, ex, _⟩ := I.hok p _ hk
      refine ⟨⟨o, e, ex.1⟩, fun a e2 => ?_⟩
      cases e2
      exact ⟨o, e, ex.2.1⟩
  | _ => exact False.elim ty
def tBM0 (K : PySem.W.Frag) (T : String) (r : V → List V → Hp → VK → Prop) (to : TE) : TE := fun σ H Q => to σ H fun x H1 => tyV K T x H1 ∧ r x [] H1 Q
def tBM (K : PySem.W.Frag) (T : String) (r : V → List V → Hp → VK → Prop) (to : TE) (t : TA) : TE := fun σ H Q => to σ H fun x H1 => tyV K T x H1 ∧ t σ H1 fun xs H2 => r x xs H2 Q
variable {o e : Expr} {es : List Expr} {to : TE} {t : TA} {name : Str} {apos cpos : Pos} {T id : String} {r : V → List V → Hp → VK → Prop}
theorem pe_bm0 (pa : PlainAttrs T) (slot : Slot T name id) (hty : typeOf (.builtin id) = pure (.type "method_descriptor")) (hm : MtR X id r) (ho : PE X o to)
    (hbase : attributeBase o name X.env (eval o X.env) = eval o X.env := by rfl) (hline : (apos.endLine == cpos.line) = true := by rfl) : PE X (.Call (.Attribute o name apos) [] [] cpos) (tBM0 X.K T r to) := by
  intro pins s σ H Q I h
  refine wpAny_Call_method0_late hbase hline (thn (ho pins s σ H _ I h) fun v s1 ⟨x, H1, I1, r1, ty, q1⟩ => ?_)
  obtain ⟨h1, h2⟩ := tyV_is I1 r1 ty
  exact ⟨T, id, pa, slot, hty, h1, h2, Calls.callWith_builtin rfl (PySem.evalArgs_none (hm pins s1 σ H1 x [] v [] Q I1 r1 .nil q1))⟩
theorem pe_bm (pa : PlainAttrs T) (slot : Slot T name id) (hty : typeOf (.builtin id) = pure (.type "method_descriptor")) (hm : MtR X id r) (ho : PE X o to) (ha : PA X (e :: es) t)
    (hbase : attributeBase o name X.env (eval o X.env) = eval o X.env := by rfl)
    (hfew : ((backTo cpos (starEach (e :: es) X.env)).all (fun x => !x.1) && (backToKw cpos (keywordEach [] X.env)).all (fun x => x.1.isSome)
      && decide ((e :: es).length + ([] : List Keyword).length + (if ([] : List Keyword).isEmpty then 0 else 1) < 30)) = true := by rfl)
    (hline : (apos.endLine == cpos.line) = true := by rfl) (hs : starEach (e :: es) X.env = (false, eval e X.env) :: starEach es X.env := by rfl) (hplain : (backTo cpos (starEach es X.env)).any (·.1) = false := by rfl) :
    PE X (.Call (.Attribute o name apos) (e :: es) [] cpos) (tBM X.K T r to t) := by
  intro pins s σ H Q I h
  refine wpAny_Call_method_late hbase hfew hline rfl (thn (ho pins s σ H _ I h) fun v s1 ⟨x, H1, I1, r1, ty, q1⟩ => ?_)
  obtain ⟨h1, h2⟩ := tyV_is I1 r1 ty
  refine ⟨T, id, pa, slot, hty, h1, h2, ?_⟩
  have hA := ha cpos pins s1 σ H1 _ I1 q1
  rw [hs] at hA ⊢
  refine Calls.callWith_builtin (by show (false || (backTo cpos (starEach es X.env)).any (·.1)) = false; rw [hplain] <;> rfl) (Calls.evalArgs_plain ?_)
  exact thn hA fun us s2 ⟨vs, H2, I2, r2, q2⟩ => hm pins s2 σ H2 x vs v us Q I2 r1 r2 q2
/- xs.append(e), list.index on a module's tuple .. are MtR facts of 06m -/
end
end L2

namespace L2
open PySem PySem.Spec PyProof.Rows

def MtM (X : Cx) (id : String) (r : V → List V → Hp → VK → Prop) : Prop :=
  ∀ (pins : List (Addr × Obj)) (s : Shared) (σ : St) (H : Hp) (x : V) (xs : List V) (v : Value) (us : List Value) (Q : VK), Inv X pins σ H s → RelV x v → Vals xs us → r x xs H Q →
    wpAny (model X.prog X.w) X.A (call (.builtin id) (v :: us)) (EP X pins σ Q) X.xe s

/-! ### lists of values -/
theorem Vals.one : ∀ {x : V} {us : List Value}, Vals [x] us → ∃ u, us = [u] ∧ RelV x u
  | _, _, .cons r .nil => ⟨_, rfl, r⟩
theorem Vals.zero : ∀ {us : List Value}, Vals [] us → us = []
  | _, .nil => rfl
theorem Vals.dropLast {xs : List V} {us : List Value} (h : Vals xs us) : Vals xs.dropLast us.dropLast := by
  induction h with
  | nil => exact .nil
  | cons r t ih =>
    cases t with
    | nil => exact .nil
    | cons q t' => exact .cons r ih
theorem erase_last {α : Type} (l : List α) : l.eraseIdx (l.length - 1) = l.dropLast := by
  induction l with
  | nil => rfl
  | cons a r ih =>
    cases r with
    | nil => rfl
    | cons b r =>
      have e : (a :: b :: r).length - 1 = ((b :: r).length - 1) + 1 := by
        have h1 : (a :: b :: r).length = r.length + 2 := rfl
        have h2 : (b :: r).length = r.length + 1 := rfl
        omega
      rw [e, List.eraseIdx_cons_succ, ih]
      all_goals rfl

section
variable {X : Cx} {pins : List (Addr × Obj)} {σ : St} {H : Hp} {s : Shared} {l b : Addr} {xs ys zs : List V}

/-! ### the two steps: a tracked list is rewritten, a new list is laid -/
theorem Inv.lset {its its' : List Value} {n : Nat} {f : Array Value → Array Value} {t' : Nat} (I : Inv X pins σ H s) (hH : H l = some (.lst xs))
    (e : s.heap.get? l = some { cls := .type "list", data := .seq its.toArray n }) (hf : f its.toArray = its'.toArray) (hv : Vals ys its') (hz : ys.length ≤ sizeLine) :
    Inv X pins σ (upd H l (.lst ys)) { s with heap := s.heap.update l (Obj.mapSeq f), toks := t' } := by
  have q := PySem.IsL.update e f
  rw [hf] at q
  refine I.write (x := l) (e := l) (by rw [hH]; exact trivial) (.inl rfl) (fun b' u hb hu => (Heap.get?_update_other s.heap (Obj.mapSeq f) (Ne.symm hb)).trans hu) ⟨_, q⟩ ?_
  exact ⟨hz, its', _, hv, q⟩
theorem Inv.lnew {its : List Value} {t' : Nat} (I : Inv X pins σ H s) (hv : Vals ys its) (hz : ys.length ≤ sizeLine) :
    Inv X pins σ (upd H s.heap.objs.size (.lst ys)) { s with heap := s.heap.push { cls := .type "list", data := .seq its.toArray }, toks := t' } :=
  I.laid (fun _ _ q => Heap.get?_push_of_some _ q) (Nat.le_refl _) ⟨hz, its, 0, hv, Heap.get?_push_size _ rfl⟩
theorem Inv.fresh (I : Inv X pins σ H s) : H s.heap.objs.size = none := I.hok.fresh (Nat.le_refl _)
theorem Inv.lstM (I : Inv X pins σ H s) (hH : H l = some (.lst xs)) : xs.length ≤ sizeLine ∧ ∃ (its : List Value) (n : Nat), Vals xs its ∧ xs.length = its.length ∧ s.heap.get? l = some { cls := .type "list", data := .seq its.toArray n } := by
  obtain ⟨z, its, n, r, e⟩ := I.hok l _ hH
  exact ⟨z, its, n, r, r.length, e⟩

theorem notLongL {n : Nat} (h : n ≤ sizeLine) : Builtin.List.listTooLong n = false := by
  unfold Builtin.List.listTooLong
  exact decide_eq_false (by omega)
end

section
variable {X : Cx}

/-! ### methods -/
def rAppend : V → List V → Hp → VK → Prop := fun x vs H Q => ∃ l xs y, x = .ref l ∧ vs = [y] ∧ H l = some (.lst xs) ∧ xs.length < sizeLine ∧ Q .non (upd H l (.lst (xs ++ [y])))
theorem mt_append : MtM X "list.append" rAppend := by
  intro pins s σ H x vs v us Q I rx rv h
  obtain ⟨l, xs, y, rfl, rfl, hH, hz, q⟩ := h
  cases rx
  obtain ⟨u, rfl, ru⟩ := rv.one
  obtain ⟨z, its, n, r, hl, e⟩ := I.lstM hH
  refine call_meets F.slot_list_append ⟨_, e, rfl⟩ F.entry_list_append (F.args_list_append_2 _ _) (PySem.list_append l its.toArray n u (by rw [List.size_toArray]; omega)) ⟨e, ?_⟩
  refine ⟨.non, _, I.lset (its' := its ++ [u]) hH e (by simp) (r.append (.cons ru .nil)) ?_, rfl, q⟩
  rw [List.length_append, List.length_singleton]
  omega

def rExtend : V → List V → Hp → VK → Prop := fun x vs H Q => ∃ l b xs zs, x = .ref l ∧ vs = [.ref b] ∧ H l = some (.lst xs) ∧ H b = some (.lst zs) ∧ xs.length + zs.length ≤ sizeLine ∧ Q .non (upd H l (.lst (xs ++ zs)))
theorem mt_extend : MtM X "list.extend" rExtend := by
  intro pins s σ H x vs v us Q I rx rv h
  obtain ⟨l, b, xs, zs, rfl, rfl, hH, hB, hz, q⟩ := h
  cases rx
  obtain ⟨u, rfl, ru⟩ := rv.one
  cases ru
  obtain ⟨z, its, n, r, hl, e⟩ := I.lstM hH
  obtain ⟨z2, its2, n2, r2, hl2, e2⟩ := I.lstM hB
  have hsz : its.toArray.size + its2.toArray.size ≤ sizeLine := by rw [List.size_toArray, List.size_toArray]; omega
  have hlong : ¬ (!its.toArray.isEmpty && Builtin.List.listTooLong (its.toArray.size + its2.toArray.size)) = true := by
    rw [notLongL hsz, Bool.and_false]
    exact Bool.false_ne_true
  refine call_meets F.slot_list_extend ⟨_, e, rfl⟩ F.entry_list_extend (F.args_list_extend_2 _ _)
    (AutoSeq1.list_extend_list_list_0 l its.toArray n b its2.toArray n2 hlong (by rw [List.size_toArray]; omega) (by omega)) ⟨e, e2, ?_⟩
  refine ⟨.non, _, I.lset (its' := its ++ its2) hH e (by simp) (r.append r2) ?_, rfl, q⟩
  rw [List.length_append]
  omega

def rPop : V → List V → Hp → VK → Prop := fun x vs H Q => ∃ l xs y, x = .ref l ∧ vs = [] ∧ H l = some (.lst xs) ∧ xs[xs.length - 1]? = some y ∧ Q y (upd H l (.lst xs.dropLast))
theorem mt_pop : MtM X "list.pop" rPop := by
  intro pins s σ H x vs v us Q I rx rv h
  obtain ⟨l, xs, y, rfl, rfl, hH, hy, q⟩ := h
  cases rx
  have hus := rv.zero
  subst hus
  obtain ⟨z, its, n, r, hl, e⟩ := I.lstM hH
  obtain ⟨u, hu, ru⟩ := r.get hy
  have hy' : its.toArray[its.toArray.size - 1]? = some u := by
    show its.toArray[its.length - 1]? = some u
    rw [← Array.getElem?_toList, ← hl]
    exact hu
  refine call_meets F.slot_list_pop ⟨_, e, rfl⟩ F.entry_list_pop (F.args_list_pop_1 _) (MeetsSeq.list_pop_last l its.toArray n u hy' (by rw [List.size_toArray]; omega)) ⟨e, ?_⟩
  refine ⟨y, _, I.lset (its' := its.dropLast) hH e ?_ r.dropLast ?_, ru, q⟩
  · show its.toArray.eraseIdxIfInBounds (its.toArray.size - 1) = its.dropLast.toArray
    rw [List.size_toArray, List.eraseIdxIfInBounds_toArray, erase_last]
  · rw [List.length_dropLast]
    omega




/-! ### list + list, list += list, list * int -/
def rCat : R2 := fun x y H Q => ∃ l b xs zs, x = .ref l ∧ y = .ref b ∧ H l = some (.lst xs) ∧ H b = some (.lst zs) ∧ xs.length + zs.length ≤ sizeLine ∧ ∀ p, H p = none → Q (.ref p) (upd H p (.lst (xs ++ zs)))
theorem op_cat : OpR X (binaryOp .Add) rCat := by
  intro pins s σ H x y v u Q I rx ry h
  obtain ⟨l, b, xs, zs, rfl, rfl, hH, hB, hz, q⟩ := h
  cases rx
  cases ry
  obtain ⟨z, its, n, r, hl, e⟩ := I.lstM hH
  obtain ⟨z2, its2, n2, r2, hl2, e2⟩ := I.lstM hB
  refine PySem.P.add_list e e2 ?_ (by rw [List.size_toArray, List.size_toArray]; omega)
  have ea : its.toArray ++ its2.toArray = (its ++ its2).toArray := by simp
  rw [ea]
  exact ⟨.ref _, _, I.lnew (t' := s.toks) (r.append r2) (by rw [List.length_append]; omega), rfl, q _ I.fresh⟩

/-! ### del xs[i] -/
end

/-! ### xs[a:b] = ys -/
section
variable {prog : Program} {w : World} {A : Around} {E : Value → Shared → Prop} {s : Shared}
set_option maxRecDepth 100000 in
end

section
variable {X : Cx}
end
end L2

namespace Att
open PySem PySem.W PySem.Calls PyProof.Rows

/-! ### the script -/



/-! ### the attachment: holds_open's last premise (the goal 'hc' behind k_head) from a wpAny of the law's body -/



/-! ### rules over ANY heap (no ledger) from facts about the written part K: the library's own take a ledger (News) for what they write -/
section
variable {prog : Program} {w : World} {A : Around} {E : Value → Shared → Prop} {s : Shared} {K : Frag}





/-! the whole heap as the ledger: makes every rule that writes through a ledger a rule over any heap -/

end
end Att

namespace L2
open PySem PySem.Spec PyProof.Rows



end L2

namespace L2
open PySem PySem.Spec PyProof.Rows


end L2

/- THE LAST THEOREM (shape; LID, My.* are yours):
   My.Adr: a structure of the addresses that your layer names (classes, functions); My.Txt K t: a structure (Prop) of the equations over K;
   My.txt_mk : {K} {implicit addresses ..} (e1 : nsIn K mainGlobals "law" = some (some (.ref f))) (e2 : K.lookup f = some ⟨oc, od, .func (fnOf "law" "law" params body scope dV kV doc pm an cdv ct), sl⟩) (e3 : codeIn K cdv "law" = true) .. : ∃ t, My.Txt K t

set_option maxRecDepth 100000 in
set_option maxHeartbeats 0 in
theorem PySem.Challenge.cw_LID_holds : PySem.Challenge.rw_LID.Holds := by
  w_on; o_law; k_head; (case hw => w_witness2)
  k_fill
  refine L2.walk_of (l := PySem.Challenge.rw_LID) (n := 63) (k := 40) (x := "script") (CX := fun w => ..) (sp := fun _ => My.sp_law) rfl (by decide) rfl ⟨rfl, by decide, by decide⟩ (fun w h Y => PySem.W.kIn_of Y) ?F ?S ?C
  case F =>
    intro w mg fa h KX G hmg
    have T : ∃ t, My.Txt (L2.KOf KX) t := by
      dsimp only [L2.KOf]                          -- K must stand as «<heap const> w.params» for k_is
      refine' My.txt_mk ?e1 ?e2 ?e3 ..
      (case e1 => PySem.W.k_is)                    -- in the order: a name -> its address -> its object -> its parts
      (case e2 => PySem.W.k_is)
      ..
    obtain ⟨t, T⟩ := T
    have e0 := hmg.symm.trans (PySem.W.mg_of KX G T.law)
    cases e0                                       -- fa is the law's own address
    exact ⟨_, fun s u => .of_eq rfl, fun base kb nb => My.law_fn T kb nb⟩     -- if «.of_eq rfl» comes too early: refine' ⟨_, ?b, fun base kb nb => My.law_fn T kb nb⟩; exact fun s u => .of_eq rfl
  case S => exact fun w H a ns hl hO hS => ..
  case C => exact ..
(the tactic k_is has no namespace: write k_is) -/

/-! SHORT WORDS over the layer: a def of the text, its body, what a loop and a test want. -/
namespace L2
open PySem PySem.Spec PyProof.Rows

/-! ### the text by places -/
/-- the j-th statement of a class's body -/
def inClass (s : Stmt) (j : Nat) : Stmt := match s with
  | .ClassDef _ _ _ body _ _ _ _ _ _ _ => body.getD j (.Pass ⟨0, 0, 0, 0⟩)
  | _ => .Pass ⟨0, 0, 0, 0⟩
def defArgs (s : Stmt) : Arguments := match s with
  | .FunctionDef _ a _ _ _ _ _ _ _ _ => a
  | _ => { posonlyargs := [], args := [], vararg := none, kwonlyargs := [], kw_defaults := [], kwarg := none, defaults := [] }
def defBody (s : Stmt) : List Stmt := match s with
  | .FunctionDef _ _ b _ _ _ _ _ _ _ => b
  | _ => []
def defScope (s : Stmt) : Scope := match s with
  | .FunctionDef _ _ _ _ _ _ sc _ _ _ => sc
  | _ => { kind := .function, names := [], isGenerator := false, isCoroutine := false }

/-! ### no exception leaves a def -/
abbrev CX0 : CXT := fun _ _ _ _ _ _ => False
abbrev E0 : XK := fun _ _ _ => False
theorem pass0 {X : Cx} : Passes CX0 X E0 := fun _ _ _ _ _ _ _ h => h.elim

/-! ### a def (or method) of the text as it stands behind the top -/
structure Fun (K : PySem.W.Frag) (x qual : Str) (st : Stmt) (f : Addr) (fd : FuncData) : Prop where
  ex : ∃ (oc : Value) (od : Option Addr) (kV doc pm : Value) (an : Option Addr) (cdv ct : Value) (osl : Array (Option Value)),
    fd = PySem.W.fnOf x qual (defArgs st) (defBody st) (defScope st) .none kV doc pm an cdv ct ∧ K.lookup f = some ⟨oc, od, .func fd, osl⟩ ∧ PySem.W.codeIn K cdv qual = true
  kp : PySem.W.keepIn K (.ref f) = true
section
variable {P : Program} {w : World} {K : PySem.W.Frag} {mg : Str → Option Value} {base : Heap}
/-- THE RULE for a def: its body as a term of rules, and the reading of that term -/
theorem Fun.ok {x qual : Str} {st : Stmt} {f : Addr} {fd : FuncData} {N ps : List Str} {k : Nat} {sp : Sp} (F : Fun K x qual st f fd) (S : FnScope N ps (defScope st)) (len : ∀ vs H Q E, sp vs H Q E → vs.length = ps.length)
    (hbody : ∀ (cdv : Value) (A : Around) (outer : List Env) (s : Shared) (H : Hp) (vs : List V) (Q : VK) (E : XK), Room k (A.deeper (envOfC qual (defScope st) s.heap.objs.size f cdv)) → sp vs H Q E →
      ∃ t, PSs (cxOf CX0 P w K mg base N qual (defScope st) f cdv A outer s H E).nox (defBody st) t ∧ t { nx := fun _ H' => Q .non H', rt := Q } (start N vs) H) : FnOk P w K mg base CX0 (k + 1) f fd ps sp := by
  obtain ⟨oc, od, kV, doc, pm, an, cdv, ct, osl, rfl, lk, hcd⟩ := F.ex
  refine fn_of lk hcd S len fun A outer s H vs Q E hr hsp => ?_
  obtain ⟨t, h, q⟩ := hbody cdv A outer s H vs Q E hr hsp
  exact ⟨t, h.nox, q⟩
/-- how its arguments bind (no defaults): h is «fun _ _ _ _ _ _ us hl => match us, hl with | [_, _], _ => rfl», one _ a parameter -/
theorem Fun.binds {x qual : Str} {st : Stmt} {f : Addr} {fd : FuncData} {ps : List Str} (F : Fun K x qual st f fd)
    (h : ∀ (kV doc pm : Value) (an : Option Addr) (cdv ct : Value) (us : List Value), us.length = ps.length → bindArgs (PySem.W.fnOf x qual (defArgs st) (defBody st) (defScope st) .none kV doc pm an cdv ct) ⟨us, []⟩ = pure (ps.zip us)) : Binds K fd ps [] := by
  obtain ⟨oc, od, kV, doc, pm, an, cdv, ct, osl, rfl, lk, hcd⟩ := F.ex
  exact .all (h kV doc pm an cdv ct)
theorem fun_mk {x qual : Str} {st : Stmt} {f : Addr} {oc : Value} {od an : Option Addr} {osl : Array (Option Value)} {kV doc pm cdv ct : Value} (l : K.lookup f = some ⟨oc, od, .func (PySem.W.fnOf x qual (defArgs st) (defBody st) (defScope st) .none kV doc pm an cdv ct), osl⟩)
    (c : PySem.W.codeIn K cdv qual = true) (k : PySem.W.keepIn K (.ref f) = true) : Fun K x qual st f (PySem.W.fnOf x qual (defArgs st) (defBody st) (defScope st) .none kV doc pm an cdv ct) := ⟨⟨oc, od, kV, doc, pm, an, cdv, ct, osl, rfl, l, c⟩, k⟩
end

/-! ### expressions in short: the name that stands in the i-th slot -/
section
variable {X : Cx}
theorem pv (i : Nat) {x : Str} {pos : Pos} (hN : X.N[i]? = some x := by rfl) (hv : Vis X.env.scope x := by first | exact Or.inl rfl | exact Or.inr (Or.inl rfl) | exact Or.inr (Or.inr rfl)) (hd : (x == ("__debug__" : Str)) = false := by decide)
    (hcd : (x == ("__classdict__" : Str)) = false := by decide) : PE X (.Name x pos) (tVar i) := pe_var hN hv hd hcd
end

/-! ### tests -/
theorem iteF {A B : Prop} (h : B) : if false = true then A else B := by
  rw [if_neg Bool.false_ne_true]
  exact h
theorem iteT {A B : Prop} (h : A) : if true = true then A else B := by
  rw [if_pos rfl]
  exact h
theorem ite2 {c A B : Prop} [Decidable c] (h1 : c → A) (h2 : ¬ c → B) : if c then A else B := by
  by_cases h : c
  · rw [if_pos h]
    exact h1 h
  · rw [if_neg h]
    exact h2 h
theorem iteNS {c A B : Prop} [Decidable c] (hc : c) (h : B) : if (!decide c) = true then A else B := by
  rw [decide_eq_true hc]
  exact iteF h

/-! ### heaps -/
/-- all that was tracked is as it was -/
def Same (H H' : Hp) : Prop := ∀ b o, H b = some o → H' b = some o
theorem Same.refl (H : Hp) : Same H H := fun _ _ h => h
theorem Same.trans {H H1 H2 : Hp} (a : Same H H1) (b : Same H1 H2) : Same H H2 := fun c o h => b c o (a c o h)
theorem Same.free {H H' : Hp} (e : Same H H') {l : Addr} (h : H' l = Option.none) : H l = Option.none := by
  cases q : H l with
  | none => rfl
  | some o =>
    rw [e l o q] at h
    cases h

/-! ### lists -/
/-- a new instance and its __init__ leave all that was tracked as it was -/
theorem Same.made {H H1 : Hp} {x dx C : Addr} (nx : H x = Option.none) (nd : H dx = Option.none) (k : ∀ b o, (upd (upd H dx (.own x)) x (.ins C dx [])) b = some o → b ≠ x → H1 b = some o) : Same H H1 := fun b o e =>
  k b o (by rw [upd_ne (ne_of_none e nx), upd_ne (ne_of_none e nd)]; exact e) (ne_of_none e nx)
end L2
end
section
set_option Elab.async false
set_option linter.all false
set_option maxRecDepth 100000
namespace L2
open PySem PySem.Spec PyProof.Rows

/-! ### () + u -/
def rCatT0 (K : PySem.W.Frag) : R2 := fun x y H Q => ∃ a b ys, x = .ref a ∧ y = .ref b ∧ SqT K H a [] ∧ SqT K H b ys ∧ Q (.ref b) H
theorem cat_tup0 {prog : Program} {w : World} {A : Around} {E : Value → Shared → Prop} {s : Shared} {t b : Addr} {ws : Array Value} {Q : Value → Shared → Prop} (ht : IsTup s.heap t #[]) (hb : IsTup s.heap b ws) (h1 : Q (.ref b) s) :
    wpAny (model prog w) A (binaryOp Operator.Add (.ref t) (.ref b)) Q E s :=
  by
  obtain ⟨⟨cls, dd, data, sl⟩, ho, hc, n, hd⟩ := id ht
  obtain ⟨⟨cls2, dd2, data2, sl2⟩, ho2, hc2, n2, hd2⟩ := id hb
  simp only at hc hd hc2 hd2
  subst hc hd hc2 hd2
  exact concat_meets ⟨_, ho, rfl⟩ ⟨_, ho2, rfl⟩ noFill_tuple_add seq_tuple_add PySem.F.slot_tuple_add PySem.F.entry_tuple_add (PySem.F.args_tuple_add_2 _ _)
    (tuple_addW0 t b #[] ws n n2 dd dd2 sl sl2 (by simp)) ⟨ho, ho2, h1⟩
theorem op_catT0 {X : Cx} : OpR X (binaryOp .Add) (rCatT0 X.K) := by
  intro pins s σ H x y v u Q I rx ry h
  obtain ⟨a, b, ys, rfl, rfl, ha, hb, q⟩ := h
  cases rx
  cases ry
  obtain ⟨its, r1, p1, _⟩ := I.tuple ha
  obtain ⟨its2, r2, p2, _⟩ := I.tuple hb
  cases r1
  exact cat_tup0 p1 p2 ⟨.ref b, H, I, rfl, q⟩
/-- t + (x,), whatever t has: some tuple that holds them -/
def rSnocT (K : PySem.W.Frag) : R2 := fun x y H Q => ∃ a b xs v, x = .ref a ∧ y = .ref b ∧ SqT K H a xs ∧ H b = some (.tup [v]) ∧ xs.length + 1 ≤ sizeLine ∧ ∀ b' H', Same H H' → H' b' = some (.tup (xs ++ [v])) → Q (.ref b') H'
theorem op_snocT {X : Cx} : OpR X (binaryOp .Add) (rSnocT X.K) := by
  intro pins s σ H x y v u Q I rx ry q
  obtain ⟨a, b, xs, z, rfl, rfl, ha, hb, hl, q⟩ := q
  by_cases e : xs = []
  · subst e
    exact op_catT0 pins s σ H _ _ v u Q I rx ry ⟨a, b, [z], rfl, rfl, ha, SqT.of hb, q b H (Same.refl H) hb⟩
  · refine op_catT pins s σ H _ _ v u Q I rx ry ⟨a, b, xs, [z], rfl, rfl, ha, SqT.of hb, e, hl, (fun q => nomatch q), fun _ p hp => q p _ (fun c o ho => ?_) upd_same⟩
    rw [upd_ne (ne_of_none ho hp)]
    exact ho

/-! ### min and max of a list of ints -/
theorem call_minL {X : Cx} (hc : X.calm = true) : CallR X (.builtin "min") (fun xs H Q => ∃ (a : Addr) (ns : List Int), xs = [.ref a] ∧ SqL X.K H a (ns.map V.int) ∧ 0 < ns.length ∧ ∀ M, M ∈ ns → (∀ b, b ∈ ns → M ≤ b) → Q (.int M) H) := by
  intro pins s σ H xs us Q I r h
  obtain ⟨a, ns, rfl, ha, hne, q⟩ := h
  obtain ⟨u, rfl, ru⟩ := vals1 r
  cases ru
  obtain ⟨its, r1, pl, hz⟩ := I.list ha
  have hi : IntsAre its ns := intsAre_of r1
  obtain ⟨xs, e⟩ := hi.allInts.items
  have eN : ns = xs.toList.map (·.1) := by
    have n1 := hi.numsOf
    have n2 := nums_intItems xs
    rw [← e] at n2
    exact n1.symm.trans n2
  have hsz : 0 < xs.size := by rw [eN, List.length_map, Array.length_toList] at hne; exact hne
  have hl := pl.isList
  rw [e] at hl
  refine min_intList (I.ok.hd hc) hl hsz fun v h' tk hv hk => ?_
  obtain ⟨t, rfl⟩ := intItems_at hv
  obtain ⟨h1, h2⟩ := argBest_lt (numAt xs) (xs.size - 1)
  refine ⟨.int _, H, I.kept hk, ⟨_, rfl⟩, q _ ?_ fun b hb => ?_⟩
  · rw [eN, numAt_eq]
    refine getD_mem ?_
    rw [List.length_map, Array.length_toList]; omega
  · rw [eN] at hb
    obtain ⟨j, hj, rfl⟩ := mem_getD hb
    rw [List.length_map, Array.length_toList] at hj
    rw [← numAt_eq]; exact h2 j (by omega)
theorem call_maxL {X : Cx} (hc : X.calm = true) : CallR X (.builtin "max") (fun xs H Q => ∃ (a : Addr) (ns : List Int), xs = [.ref a] ∧ SqL X.K H a (ns.map V.int) ∧ 0 < ns.length ∧ ∀ M, M ∈ ns → (∀ b, b ∈ ns → b ≤ M) → Q (.int M) H) := by
  intro pins s σ H xs us Q I r h
  obtain ⟨a, ns, rfl, ha, hne, q⟩ := h
  obtain ⟨u, rfl, ru⟩ := vals1 r
  cases ru
  obtain ⟨its, r1, pl, hz⟩ := I.list ha
  have hi : IntsAre its ns := intsAre_of r1
  obtain ⟨xs, e⟩ := hi.allInts.items
  have eN : ns = xs.toList.map (·.1) := by
    have n1 := hi.numsOf
    have n2 := nums_intItems xs
    rw [← e] at n2
    exact n1.symm.trans n2
  have hsz : 0 < xs.size := by rw [eN, List.length_map, Array.length_toList] at hne; exact hne
  have hl := pl.isList
  rw [e] at hl
  refine max_intList (I.ok.hd hc) hl hsz fun v h' tk hv hk => ?_
  obtain ⟨t, rfl⟩ := intItems_at hv
  obtain ⟨h1, h2⟩ := argBest_gt (numAt xs) (xs.size - 1)
  refine ⟨.int _, H, I.kept hk, ⟨_, rfl⟩, q _ ?_ fun b hb => ?_⟩
  · rw [eN, numAt_eq]
    refine getD_mem ?_
    rw [List.length_map, Array.length_toList]; omega
  · rw [eN] at hb
    obtain ⟨j, hj, rfl⟩ := mem_getD hb
    rw [List.length_map, Array.length_toList] at hj
    rw [← numAt_eq]; exact h2 j (by omega)

/-! ### min of four ints -/
theorem args_min4 (a b c d : Value) : argsOk "min" ⟨[a, b, c, d], []⟩ := by unfold argsOk; kernel_rfl
theorem call_min_four {prog : Program} {w : World} {A : Around} {E : Value → Shared → Prop} {s : Shared} {a b c d : Value} {Q : Value → Shared → Prop}
    (h : wpAny (model prog w) A.in1 (pyIter (.ref s.heap.objs.size)) (fun it s2 => ∃ I fp wr n P St bt, it = .ref I ∧ Walks prog w A.in1 I fp wr n P St ∧ St 0 s2.heap ∧ (∀ b ∈ fp, b < s2.heap.objs.size) ∧ 0 < n ∧ CmpOf prog w A.in1 .Lt P bt ∧
      ∀ v h' tk, P (argBest bt (n - 1)) v → (∀ b o, b ∉ wr → s2.heap.get? b = some o → h'.get? b = some o) → Q v { s2 with heap := h', toks := tk }) E
      { s with heap := s.heap.push { cls := .type "tuple", data := .seq #[a, b, c, d] } }) :
    wpAny (model prog w) A (call (.builtin "min") [a, b, c, d]) Q E s := by
  have loop : (toString "min" ++ toString ".loop" : String) = "min.loop" := by decide
  refine call_function_tree PySem.F.kind_min PySem.F.plain_min PySem.F.entry_min (args_min4 _ _ _ _) ?_
  have none2 : Builtin.Builtins.bindParams "min" ["key", "default"] 0 ⟨[], []⟩ = pure [none, none] := rfl
  refine wpAny_bind (wpAny_of_eq none2 ?_)
  show wpAny _ A.in1 (newTuple [a, b, c, d] >>= _) _ _ s
  refine wpAny_bind (wpAny_newObj_type (wpAny_bind (wpAny_mono h (fun it s2 h2 => ?_) fun _ _ e => e)))
  obtain ⟨I, fp, wr, n, P, St, bt, rfl, W, hst, hfp, hn, hcmp, hQ⟩ := h2
  refine wpAny_bind (wpAny_newObj_type (?_))
  have hSf : s2.heap.objs.size ∉ fp := fun hm => Nat.lt_irrefl _ (hfp _ hm)
  rw [loop]
  refine wpAny_pure ⟨plainId_quiet PySem.F.plain_min_loop _, codeAny_min_loop_first W bt hcmp s2.heap.objs.size hSf hn (W.frame _ _ _ hst fun b _ o e => Heap.get?_push_of_some _ e) (Heap.get?_push_size _ rfl) fun v h' tk hP hk => ?_⟩
  refine hQ v h' tk hP fun b o hw he => ?_
  exact hk b o hw (Nat.ne_of_lt (Heap.lt_size he)) (Heap.get?_push_of_some _ he)
theorem min_four_ints {prog : Program} {w : World} {A : Around} {E : Value → Shared → Prop} {s : Shared} {a b c d_ : Int} {t u x y : Tok} {Q : Value → Shared → Prop} (hh : A.handled = none)
    (h : ∀ h' tk M tm, (∀ d o, s.heap.get? d = some o → h'.get? d = some o) → M = min (min a b) (min c d_) → Q (.int M tm) { s with heap := h', toks := tk }) :
    wpAny (model prog w) A (call (.builtin "min") [.int a t, .int b u, .int c x, .int d_ y]) Q E s := by
  have hT : (s.heap.push { cls := .type "tuple", data := .seq #[.int a t, .int b u, .int c x, .int d_ y] }).IsTuple s.heap.objs.size (intItems #[(a, t), (b, u), (c, x), (d_, y)]) := ⟨_, Heap.get?_push_size _ rfl, rfl, 0, by simp [intItems]⟩
  refine call_min_four (wpAny_pyIter_tuple hT ?_)
  have hsz : (s.heap.push { cls := .type "tuple", data := .seq #[.int a t, .int b u, .int c x, .int d_ y] }).objs.size = s.heap.objs.size + 1 := Heap.size_push ..
  refine ⟨_, [_, s.heap.objs.size], [_], _, _, _, _, rfl, Walks.tuple (A := A.in1) hh _ s.heap.objs.size (by rw [hsz]; exact Nat.ne_of_lt (Nat.lt_succ_self _)) (intItems #[(a, t), (b, u), (c, x), (d_, y)]),
    ⟨⟨_, Heap.get?_push_size _ rfl, rfl, rfl⟩, hT.push _⟩, fun d hd => ?_, by simp [intItems], CmpOf.ints_lt (numAt #[(a, t), (b, u), (c, x), (d_, y)]) (fun _ _ => intItems_at), fun v h' tk hP hk => ?_⟩
  · have q : d = (s.heap.push { cls := .type "tuple", data := .seq #[.int a t, .int b u, .int c x, .int d_ y] }).objs.size ∨ d = s.heap.objs.size := by simpa using hd
    show d < (Heap.push (s.heap.push _) _).objs.size
    rw [Heap.size_push (s.heap.push _), hsz]
    rcases q with q | q <;> (rw [q]; try rw [hsz]) <;> first | exact Nat.lt_succ_self _ | exact Nat.lt_succ_of_lt (Nat.lt_succ_self _)
  · have hold : ∀ l o, s.heap.get? l = some o → h'.get? l = some o := by
      intro l o e
      refine hk l o (fun hm => ?_) (Heap.get?_push_of_some _ (Heap.get?_push_of_some _ e))
      have e1 := List.mem_singleton.mp hm
      have lt := Heap.lt_size e
      rw [e1, hsz] at lt
      exact absurd (Nat.lt_trans (Nat.lt_succ_self _) lt) (Nat.lt_irrefl _)
    have hP' : (intItems #[(a, t), (b, u), (c, x), (d_, y)])[argBest (fun i j => decide (numAt #[(a, t), (b, u), (c, x), (d_, y)] i < numAt #[(a, t), (b, u), (c, x), (d_, y)] j)) 3]? = some v := by
      have hsz2 : (intItems #[(a, t), (b, u), (c, x), (d_, y)]).size - 1 = 3 := by simp [intItems]
      rw [← hsz2]; exact hP
    obtain ⟨tm, rfl⟩ := intItems_at hP'
    obtain ⟨h1, h2⟩ := argBest_lt (numAt #[(a, t), (b, u), (c, x), (d_, y)]) 3
    refine h h' tk _ tm hold ?_
    have q0 := h2 0 (by omega)
    have q1 := h2 1 (by omega)
    have q2 := h2 2 (by omega)
    have q3 := h2 3 (by omega)
    generalize argBest (fun i j => decide (numAt #[(a, t), (b, u), (c, x), (d_, y)] i < numAt #[(a, t), (b, u), (c, x), (d_, y)] j)) 3 = k at *
    have e0 : numAt #[(a, t), (b, u), (c, x), (d_, y)] 0 = a := rfl
    have e1 : numAt #[(a, t), (b, u), (c, x), (d_, y)] 1 = b := rfl
    have e2 : numAt #[(a, t), (b, u), (c, x), (d_, y)] 2 = c := rfl
    have e3 : numAt #[(a, t), (b, u), (c, x), (d_, y)] 3 = d_ := rfl
    rw [e0] at q0; rw [e1] at q1; rw [e2] at q2; rw [e3] at q3
    have : k = 0 ∨ k = 1 ∨ k = 2 ∨ k = 3 := by omega
    rcases this with rfl | rfl | rfl | rfl
    · rw [e0] at *; omega
    · rw [e1] at *; omega
    · rw [e2] at *; omega
    · rw [e3] at *; omega
theorem call_min4 {X : Cx} (hc : X.calm = true) : CallR X (.builtin "min") (fun xs H Q => ∃ i j k l, xs = [.int i, .int j, .int k, .int l] ∧ Q (.int (min (min i j) (min k l))) H) := by
  intro pins s σ H xs us Q I r h
  obtain ⟨i, j, k, l, rfl, q⟩ := h
  cases r with
  | cons r1 r => cases r with
    | cons r2 r => cases r with
      | cons r3 r => cases r with
        | cons r4 r =>
          cases r
          obtain ⟨t1, rfl⟩ := r1
          obtain ⟨t2, rfl⟩ := r2
          obtain ⟨t3, rfl⟩ := r3
          obtain ⟨t4, rfl⟩ := r4
          exact min_four_ints (I.ok.hd hc) fun h' tk M tm hk e => ⟨.int M, H, I.kept hk, ⟨_, rfl⟩, by rw [e]; exact q⟩

/-! ### a call of a local name that holds a def -/
def tCallV (i : Nat) (f : Addr) (sp : Sp) (dvs : List V) (E : XK) (t : TA) : TE := fun σ H Q => σ[i]? = some (some (.ref f)) ∧ t σ H fun vs H1 => sp (vs ++ dvs) H1 Q E
theorem pe_callV {X : Cx} {CX : CXT} {k : Nat} {f : Addr} {fd : FuncData} {ps : List Str} {sp : Sp} {dvs : List V} {ds : List Value} {E : XK} {x : Str} {p pos : Pos} {e : Expr} {es : List Expr} {t : TA} (i : Nat)
    (F : FnOk X.prog X.w X.K X.mg X.base CX k f fd ps sp) (hr : Room k X.A) (hk : PySem.W.keepIn X.K (.ref f) = true) (hb : Binds X.K fd ps ds) (hd : Vals dvs ds) (hx : Passes CX X E)
    (ha : PA X (e :: es) t) (hN : X.N[i]? = some x := by rfl) (hv : Vis X.env.scope x := by first | exact Or.inl rfl | exact Or.inr (Or.inl rfl) | exact Or.inr (Or.inr rfl)) (hdb : (x == ("__debug__" : Str)) = false := by decide) (hcd : (x == ("__classdict__" : Str)) = false := by decide)
    (he : starEach (e :: es) X.env = (false, eval e X.env) :: starEach es X.env := by rfl) (hpl : (backTo pos (starEach es X.env)).any (·.1) = false := by rfl) :
    PE X (.Call (.Name x p) (e :: es) [] pos) (tCallV i f sp dvs E t) := by
  intro pins s σ H Q I h
  obtain ⟨h0, h⟩ := h
  refine wpAny_Call_Name_kw (thn (pe_var (X := X) (i := i) hN hv hdb hcd pins s σ H (fun v H' => v = .ref f ∧ H' = H) I ⟨.ref f, h0, rfl, rfl⟩) fun u s0 ⟨v, H0, I0, r0, e1, e2⟩ => ?_)
  subst e1
  subst e2
  cases r0
  refine PySem.W.callWith_K (h₀ := X.base) I0.ok.mod.kin hk (thn (ha pos pins s0 σ _ _ I0 h) fun us s1 ⟨vs, H1, I1, r, q⟩ => ⟨I1.kIn, ?_⟩) he hpl
  exact run_fn F hr hb hd hx I1 r q
/-- a whole number of the file's top -/
theorem pk {X : Cx} {x : Str} {n : Int} {t : Tok} {pos : Pos} (hm : X.mg x = some (.int n t)) (hg : Gl X x := by rfl) (hd : (x == ("__debug__" : Str)) = false := by decide) : PE X (.Name x pos) (tC (.int n)) := pe_glob hg hm ⟨t, rfl⟩ hd
/-- a def of the file's top, as a value -/
theorem pfn {X : Cx} {x : Str} {f : Addr} {pos : Pos} (hm : X.mg x = some (.ref f)) (hg : Gl X x := by rfl) (hd : (x == ("__debug__" : Str)) = false := by decide) : PE X (.Name x pos) (tC (.ref f)) := pe_glob hg hm rfl hd
end L2
end
section
set_option Elab.async false
set_option linter.all false
set_option maxRecDepth 100000
set_option maxHeartbeats 2000000
namespace L2
open PySem PySem.Spec PyProof.Rows
open PySem.W (WData Codec OpenSpec Well WellAll ReadsW ReadsAllW)
/-! ### an answer as data -/
mutual
/-- x stands for the datum d, lists and tuples all the way -/
inductive Dw (K : PySem.W.Frag) (H : Hp) : V → WData → Prop
  | non : Dw K H .non .none
  | bl (b : Bool) : Dw K H (.bl b) (.bool b)
  | int (i : Int) : Dw K H (.int i) (.int i)
  | str (x : Str) : Dw K H (.str x) (.str x)
  | byt (b : Array UInt8) : Dw K H (.byt b) (.bytes b.toList)
  | lst {a : Addr} {xs : List V} {ds : List WData} : SqL K H a xs → DwAll K H xs ds → Dw K H (.ref a) (.list ds)
  | tup {a : Addr} {xs : List V} {ds : List WData} : SqT K H a xs → DwAll K H xs ds → Dw K H (.ref a) (.tuple ds)
inductive DwAll (K : PySem.W.Frag) (H : Hp) : List V → List WData → Prop
  | nil : DwAll K H [] []
  | cons {v : V} {vs : List V} {d : WData} {ds : List WData} : Dw K H v d → DwAll K H vs ds → DwAll K H (v :: vs) (d :: ds)
end
theorem dw_ints {K : PySem.W.Frag} {H : Hp} : ∀ ns : List Int, DwAll K H (ns.map V.int) (ns.map WData.int)
  | [] => .nil
  | n :: r => .cons (.int n) (dw_ints r)
theorem ints_dw {K : PySem.W.Frag} {H : Hp} : ∀ (ns : List Int) (xs : List V), DwAll K H xs (ns.map WData.int) → xs = ns.map V.int
  | [], xs, h => by
    cases h
    rfl
  | n :: r, xs, h => by
    cases h with
    | cons h1 h2 =>
      cases h1
      rw [ints_dw r _ h2] <;> rfl
section
variable {P : Program} {w : World} {K : PySem.W.Frag} {H : Hp} {h : Heap} {R : PySem.W.WRecords} {cl : Str → Option Addr}
theorem sqL_at {a : Addr} {xs : List V} (hok : HOk P w H h) (KX : K.In h) (q : SqL K H a xs) : ∃ (its : List Value) (o : Obj) (n : Nat), Vals xs its ∧ h.get? a = some o ∧ o.cls = .type "list" ∧ o.data = .seq its.toArray n := by
  rcases q with q | ⟨o, its, n, e, hc, _, hd, _, hv⟩
  · obtain ⟨_, its, n, hv, e⟩ := (show ObjOk P w H h a (.lst xs) from q.ok hok)
    exact ⟨its, _, n, hv, e, rfl, rfl⟩
  · exact ⟨its.toList, o, n, hv, KX _ _ e, hc, by simp [hd]⟩
theorem sqT_at {a : Addr} {xs : List V} (hok : HOk P w H h) (KX : K.In h) (q : SqT K H a xs) : ∃ (its : List Value) (o : Obj) (n : Nat), Vals xs its ∧ h.get? a = some o ∧ o.cls = .type "tuple" ∧ o.data = .seq its.toArray n := by
  rcases q with q | ⟨o, its, n, e, hc, hd, _, hv⟩
  · obtain ⟨_, its, hv, o, e, hc, n, hd⟩ := (show ObjOk P w H h a (.tup xs) from q.ok hok)
    exact ⟨its, o, n, hv, e, hc, hd⟩
  · exact ⟨its.toList, o, n, hv, KX _ _ e, hc, by simp [hd]⟩
mutual
theorem Dw.reads (hok : HOk P w H h) (KX : K.In h) : ∀ (d : WData) (v : V) (u : Value), Dw K H v d → RelV v u → ∃ as, ReadsW R cl h u d as
  | .none, _, _, x, r => by
    cases x
    cases r
    exact ⟨_, ReadsW.none⟩
  | .bool b, _, _, x, r => by
    cases x
    cases r
    exact ⟨_, ReadsW.bool b⟩
  | .int i, _, _, x, r => by
    cases x
    obtain ⟨t, rfl⟩ := r
    exact ⟨_, ReadsW.int i t⟩
  | .str s, _, _, x, r => by
    cases x
    obtain ⟨t, rfl⟩ := r
    exact ⟨_, ReadsW.str s t⟩
  | .bytes b, _, _, x, r => by
    cases x
    obtain ⟨t, rfl⟩ := r
    exact ⟨_, ReadsW.bytes _ t⟩
  | .list ds, _, _, x, r => by
    cases x with
    | lst hs ha =>
      cases r
      obtain ⟨its, o, n, rv, ho, hc, hd⟩ := sqL_at hok KX hs
      obtain ⟨as, hr⟩ := Dw.readsAll hok KX ds _ its ha rv
      exact ⟨_, ReadsW.list ho hc hd hr⟩
  | .tuple ds, _, _, x, r => by
    cases x with
    | tup hs ha =>
      cases r
      obtain ⟨its, o, n, rv, ho, hc, hd⟩ := sqT_at hok KX hs
      obtain ⟨as, hr⟩ := Dw.readsAll hok KX ds _ its ha rv
      exact ⟨_, ReadsW.tuple ho hc hd hr⟩
  | .float _, _, _, x, _ => by cases x
  | .dict _, _, _, x, _ => by cases x
  | .bytearray _, _, _, x, _ => by cases x
  | .set _, _, _, x, _ => by cases x
  | .frozenset _, _, _, x, _ => by cases x
  | .obj _ _, _, _, x, _ => by cases x
theorem Dw.readsAll (hok : HOk P w H h) (KX : K.In h) : ∀ (ds : List WData) (vs : List V) (us : List Value), DwAll K H vs ds → Vals vs us → ∃ as, ReadsAllW R cl h us ds as
  | [], _, _, x, r => by
    cases x
    cases r
    exact ⟨_, ReadsAllW.nil⟩
  | d :: ds, _, _, x, r => by
    cases x with
    | cons h1 h2 =>
      cases r with
      | cons r1 r2 =>
        obtain ⟨as, q1⟩ := Dw.reads hok KX d _ _ h1 r1
        obtain ⟨bs, q2⟩ := Dw.readsAll hok KX ds _ _ h2 r2
        exact ⟨_, ReadsAllW.cons q1 q2⟩
end
end
/-! ### the arguments -/
mutual
/-- data that a codec tells -/
def plW : WData → Bool
  | .none => true
  | .bool _ => true
  | .int _ => true
  | .str _ => true
  | .bytes _ => true
  | .list xs => plWs xs
  | .tuple xs => plWs xs
  | _ => false
def plWs : List WData → Bool
  | [] => true
  | x :: r => plW x && plWs r
end
theorem plWs_map {α : Type} {f : α → WData} (h : ∀ a, plW (f a) = true) : ∀ l : List α, plWs (l.map f) = true
  | [] => rfl
  | x :: r => by
    show (plW (f x) && plWs (r.map f)) = true
    rw [h x, plWs_map h r] <;> rfl
theorem pl_enc : ∀ (c : Codec) (a : c.denote), plW (c.enc a) = true
  | .unit, _ => rfl
  | .bool, _ => rfl
  | .int _ _, _ => rfl
  | .nat _ _, _ => rfl
  | .u8, _ => rfl
  | .bytes _ _, _ => rfl
  | .text _ _ _ _, _ => rfl
  | .list _ _ c, a => plWs_map (fun x => pl_enc c x) a
  | .pair c d, a => by
    show (plW (c.enc a.1) && (plW (d.enc a.2) && true)) = true
    rw [pl_enc c a.1, pl_enc d a.2] <;> rfl
  | .triple c d e, a => by
    show (plW (c.enc a.1) && (plW (d.enc a.2.1) && (plW (e.enc a.2.2) && true))) = true
    rw [pl_enc c a.1, pl_enc d a.2.1, pl_enc e a.2.2] <;> rfl
  | .option c, none => rfl
  | .option c, some x => pl_enc c x
theorem pl_encAll : ∀ (cs : List Codec) (a : Codec.denoteAll cs), plWs (Codec.encAll cs a) = true
  | [], _ => rfl
  | c :: cs, a => by
    show (plW (c.enc a.1) && plWs (Codec.encAll cs a.2)) = true
    rw [pl_enc c a.1, pl_encAll cs a.2] <;> rfl
theorem weight_mem : ∀ {xs : List WData} {d : WData}, d ∈ xs → d.weight ≤ WData.weightAll xs
  | [], d, h => absurd h (by simp)
  | x :: r, d, h => by
    show d.weight ≤ x.weight + 1 + WData.weightAll r
    rcases List.mem_cons.mp h with e | m
    · rw [e]
      omega
    · have z := weight_mem m
      omega
def toV : Value → V
  | .none => .non
  | .bool b => .bl b
  | .int i _ => .int i
  | .str x _ => .str x
  | .bytes b _ => .byt b
  | .ref a => .ref a
  | _ => .non
/-- a value of the arguments, its objects among A -/
def OkU (A : List Addr) : Value → Prop
  | .none => True
  | .bool _ => True
  | .int _ _ => True
  | .str _ _ => True
  | .bytes _ _ => True
  | .ref a => a ∈ A
  | _ => False
theorem OkU.mono {A B : List Addr} (h : ∀ a ∈ A, a ∈ B) : ∀ {u : Value}, OkU A u → OkU B u := fun {u} x => by
  cases u with
  | ref a => exact h a x
  | none => trivial
  | bool b => trivial
  | int i t => trivial
  | str s t => trivial
  | bytes b t => trivial
  | _ => exact False.elim x
theorem relV_toV {A : List Addr} {u : Value} (x : OkU A u) : RelV (toV u) u := by
  cases u with
  | ref a => rfl
  | none => rfl
  | bool b => rfl
  | int i t => exact ⟨t, rfl⟩
  | str s t => exact ⟨t, rfl⟩
  | bytes b t => exact ⟨t, rfl⟩
  | _ => exact False.elim x
theorem vals_toV {A : List Addr} : ∀ {vs : List Value}, (∀ u ∈ vs, OkU A u) → Vals (vs.map toV) vs
  | [], _ => .nil
  | u :: r, h => .cons (relV_toV (h u (List.mem_cons_self ..))) (vals_toV fun x hx => h x (List.mem_cons_of_mem _ hx))
/-- an object of the arguments -/
def ArgOb (h : Heap) (A : List Addr) (a : Addr) : Prop := ∃ vs : List Value, vs.length ≤ sizeLine ∧ (∀ u ∈ vs, OkU A u) ∧
  (h.get? a = some { cls := .type "list", data := .seq vs.toArray } ∨ h.get? a = some { cls := .type "tuple", data := .seq vs.toArray })
theorem ArgOb.mono {h : Heap} {A B : List Addr} {a : Addr} (k : ∀ a ∈ A, a ∈ B) (x : ArgOb h A a) : ArgOb h B a := by
  obtain ⟨vs, h1, h2, h3⟩ := x
  exact ⟨vs, h1, fun u hu => (h2 u hu).mono k, h3⟩
theorem wellAll_len {P : Params} {h : Heap} : ∀ {vs : List Value} {ds : List WData}, WellAll P h vs ds → vs.length = ds.length
  | _, _, .nil => rfl
  | _, _, .cons _ b => by
    show _ + 1 = _ + 1
    rw [wellAll_len b]
theorem well_list {P : Params} {h : Heap} {v : Value} {ds : List WData} (x : Well P h v (.list ds)) : ∃ (a : Addr) (vs : List Value), v = .ref a ∧ h.get? a = some { cls := .type "list", data := .seq vs.toArray } ∧ WellAll P h vs ds := by
  cases x with
  | list ho hall => exact ⟨_, _, rfl, ho, hall⟩
theorem well_tuple {P : Params} {h : Heap} {v : Value} {ds : List WData} (x : Well P h v (.tuple ds)) : ∃ (a : Addr) (vs : List Value), v = .ref a ∧ h.get? a = some { cls := .type "tuple", data := .seq vs.toArray } ∧ WellAll P h vs ds := by
  cases x with
  | tuple ho hall => exact ⟨_, _, rfl, ho, hall⟩
theorem well_cons {P : Params} {h : Heap} {us : List Value} {d : WData} {ds : List WData} (x : WellAll P h us (d :: ds)) : ∃ (v : Value) (vs : List Value), us = v :: vs ∧ Well P h v d ∧ WellAll P h vs ds := by
  cases x with
  | cons a b => exact ⟨_, _, rfl, a, b⟩
theorem line_of {n : Nat} (h : n ≤ 1048576) : n ≤ sizeLine := Nat.le_trans h (by decide)
section
variable {P : Params} {h : Heap}
mutual
theorem area_one : ∀ (d : WData) (v : Value), Well P h v d → plW d = true → d.weight ≤ 1048576 → ∃ A : List Addr, OkU A v ∧ ∀ a ∈ A, ArgOb h A a
  | .none, _, x, _, _ => by
    cases x
    exact ⟨[], trivial, fun a m => absurd m (by simp)⟩
  | .bool b, _, x, _, _ => by
    cases x
    exact ⟨[], trivial, fun a m => absurd m (by simp)⟩
  | .int i, _, x, _, _ => by
    cases x
    exact ⟨[], trivial, fun a m => absurd m (by simp)⟩
  | .str s, _, x, _, _ => by
    cases x
    exact ⟨[], trivial, fun a m => absurd m (by simp)⟩
  | .bytes b, _, x, _, _ => by
    cases x
    exact ⟨[], trivial, fun a m => absurd m (by simp)⟩
  | .list ds, _, x, p, z => by
    obtain ⟨a, vs, rfl, ho, hall⟩ := well_list x
    have z2 : WData.weightAll ds ≤ 1048576 := z
    obtain ⟨A, h1, h2⟩ := area_all ds _ hall p fun d hd => Nat.le_trans (weight_mem hd) z2
    have k : ∀ b ∈ A, b ∈ a :: A := fun b hb => List.mem_cons_of_mem _ hb
    refine ⟨a :: A, List.mem_cons_self .., fun b hb => ?_⟩
    rcases List.mem_cons.mp hb with e | m
    · rw [e]
      exact ⟨vs, line_of (by rw [wellAll_len hall]; exact Nat.le_trans (PySem.W.length_le_weightAllW ds) z2), fun u hu => (h1 u hu).mono k, .inl ho⟩
    · exact (h2 b m).mono k
  | .tuple ds, _, x, p, z => by
    obtain ⟨a, vs, rfl, ho, hall⟩ := well_tuple x
    have z2 : WData.weightAll ds ≤ 1048576 := z
    obtain ⟨A, h1, h2⟩ := area_all ds _ hall p fun d hd => Nat.le_trans (weight_mem hd) z2
    have k : ∀ b ∈ A, b ∈ a :: A := fun b hb => List.mem_cons_of_mem _ hb
    refine ⟨a :: A, List.mem_cons_self .., fun b hb => ?_⟩
    rcases List.mem_cons.mp hb with e | m
    · rw [e]
      exact ⟨vs, line_of (by rw [wellAll_len hall]; exact Nat.le_trans (PySem.W.length_le_weightAllW ds) z2), fun u hu => (h1 u hu).mono k, .inr ho⟩
    · exact (h2 b m).mono k
  | .float _, _, _, p, _ => Bool.noConfusion (show false = true from p)
  | .dict _, _, _, p, _ => Bool.noConfusion (show false = true from p)
  | .bytearray _, _, _, p, _ => Bool.noConfusion (show false = true from p)
  | .set _, _, _, p, _ => Bool.noConfusion (show false = true from p)
  | .frozenset _, _, _, p, _ => Bool.noConfusion (show false = true from p)
  | .obj _ _, _, _, p, _ => Bool.noConfusion (show false = true from p)
theorem area_all : ∀ (ds : List WData) (vs : List Value), WellAll P h vs ds → plWs ds = true → (∀ d ∈ ds, d.weight ≤ 1048576) → ∃ A : List Addr, (∀ u ∈ vs, OkU A u) ∧ ∀ a ∈ A, ArgOb h A a
  | [], _, x, _, _ => by
    cases x
    exact ⟨[], fun u m => absurd m (by simp), fun a m => absurd m (by simp)⟩
  | d :: ds, _, x, p, z => by
    obtain ⟨v, vs, rfl, x1, x2⟩ := well_cons x
    have q : plW d = true ∧ plWs ds = true := Bool.and_eq_true_iff.mp p
    obtain ⟨A, a1, a2⟩ := area_one d v x1 q.1 (z d (List.mem_cons_self ..))
    obtain ⟨B, b1, b2⟩ := area_all ds vs x2 q.2 fun e he => z e (List.mem_cons_of_mem _ he)
    have kA : ∀ b ∈ A, b ∈ A ++ B := fun b hb => List.mem_append.mpr (.inl hb)
    have kB : ∀ b ∈ B, b ∈ A ++ B := fun b hb => List.mem_append.mpr (.inr hb)
    refine ⟨A ++ B, fun u hu => ?_, fun b hb => ?_⟩
    · rcases List.mem_cons.mp hu with e | m
      · rw [e]
        exact a1.mono kA
      · exact (b1 u m).mono kB
    · rcases List.mem_append.mp hb with m | m
      · exact (a2 b m).mono kA
      · exact (b2 b m).mono kB
end
end
/-- what is tracked of an argument's object -/
def hoOf (o : Obj) : Option HO := match o.data with
  | .seq vs _ => if (o.cls == Value.type "list") = true then some (.frz o (.lst (vs.toList.map toV))) else some (.frz o (.tup (vs.toList.map toV)))
  | _ => none
def argH (K : PySem.W.Frag) (h : Heap) (A : List Addr) : Hp := fun b => if b ∈ A then (if (K.lookup b).isNone = true then (h.get? b).bind hoOf else none) else none
/-- nothing is tracked but what is known to the object -/
def OnlyF (H : Hp) : Prop := ∀ b, H b = none ∨ ∃ o u, H b = some (.frz o u)
theorem hoOf_lst (vs : List Value) : hoOf { cls := .type "list", data := .seq vs.toArray } = some (.frz { cls := .type "list", data := .seq vs.toArray } (.lst (vs.map toV))) := by
  show (if (Value.type "list" == Value.type "list") = true then some (HO.frz { cls := .type "list", data := .seq vs.toArray } (.lst (vs.toArray.toList.map toV))) else some (HO.frz { cls := .type "list", data := .seq vs.toArray } (.tup (vs.toArray.toList.map toV)))) = _
  rw [if_pos (beq_self_eq_true _)]
theorem hoOf_tup (vs : List Value) : hoOf { cls := .type "tuple", data := .seq vs.toArray } = some (.frz { cls := .type "tuple", data := .seq vs.toArray } (.tup (vs.map toV))) := by
  show (if (Value.type "tuple" == Value.type "list") = true then some (HO.frz { cls := .type "tuple", data := .seq vs.toArray } (.lst (vs.toArray.toList.map toV))) else some (HO.frz { cls := .type "tuple", data := .seq vs.toArray } (.tup (vs.toArray.toList.map toV)))) = _
  rw [if_neg (by decide)]
section
variable {P : Program} {w : World} {K : PySem.W.Frag} {h : Heap} {A : List Addr}
theorem argH_at {b : Addr} {o : Obj} (hb : b ∈ A) (hk : K.lookup b = none) (e : h.get? b = some o) : argH K h A b = hoOf o := by
  unfold argH
  rw [if_pos hb, hk, if_pos (show (none : Option Obj).isNone = true from rfl), e] <;> rfl
theorem of_argH {b : Addr} {u : HO} (q : argH K h A b = some u) : b ∈ A ∧ K.lookup b = none := by
  unfold argH at q
  by_cases hb : b ∈ A
  · rw [if_pos hb] at q
    cases hk : K.lookup b with
    | none => exact ⟨hb, rfl⟩
    | some o =>
      rw [hk, if_neg (by simp)] at q
      cases q
  · rw [if_neg hb] at q
    cases q
/-- what stands tracked -/
theorem argH_is (ar : ∀ a ∈ A, ArgOb h A a) {b : Addr} {u : HO} (q : argH K h A b = some u) : K.lookup b = none ∧ ∃ vs : List Value, vs.length ≤ sizeLine ∧ (∀ u ∈ vs, OkU A u) ∧
    ((h.get? b = some { cls := .type "list", data := .seq vs.toArray } ∧ u = .frz { cls := .type "list", data := .seq vs.toArray } (.lst (vs.map toV))) ∨
     (h.get? b = some { cls := .type "tuple", data := .seq vs.toArray } ∧ u = .frz { cls := .type "tuple", data := .seq vs.toArray } (.tup (vs.map toV)))) := by
  obtain ⟨hb, hk⟩ := of_argH q
  obtain ⟨vs, h1, h2, h3⟩ := ar b hb
  refine ⟨hk, vs, h1, h2, ?_⟩
  rcases h3 with e | e
  · rw [argH_at hb hk e, hoOf_lst] at q
    exact .inl ⟨e, (Option.some.inj q).symm⟩
  · rw [argH_at hb hk e, hoOf_tup] at q
    exact .inr ⟨e, (Option.some.inj q).symm⟩
theorem argH_only (ar : ∀ a ∈ A, ArgOb h A a) : OnlyF (argH K h A) := fun b => by
  cases q : argH K h A b with
  | none => exact .inl rfl
  | some u =>
    obtain ⟨_, vs, _, _, ⟨_, e⟩ | ⟨_, e⟩⟩ := argH_is ar q
    · exact .inr ⟨_, _, by rw [e]⟩
    · exact .inr ⟨_, _, by rw [e]⟩
theorem argH_ok (ar : ∀ a ∈ A, ArgOb h A a) : HOk P w (argH K h A) h := fun b u q => by
  obtain ⟨_, vs, h1, h2, ⟨e, rfl⟩ | ⟨e, rfl⟩⟩ := argH_is ar q
  · exact ⟨e, by rw [List.length_map]; exact h1, vs, _, vals_toV h2, e⟩
  · exact ⟨e, by rw [List.length_map]; exact h1, vs, vals_toV h2, _, e, rfl, _, rfl⟩
theorem seq_inj {c c' : Value} {vs us : List Value} (e : (some { cls := c, data := .seq vs.toArray } : Option Obj) = some { cls := c', data := .seq us.toArray }) : c = c' ∧ vs = us := by
  have e1 := Option.some.inj e
  have e2 : c = c' := congrArg Obj.cls e1
  have e3 : Data.seq vs.toArray = Data.seq us.toArray := congrArg Obj.data e1
  injection e3 with e4
  refine ⟨e2, ?_⟩
  have e5 := congrArg Array.toList e4
  simpa using e5
/-- a list argument -/
theorem argL (KX : K.In h) (ar : ∀ a ∈ A, ArgOb h A a) {a : Addr} {vs : List Value} (ha : a ∈ A) (e : h.get? a = some { cls := .type "list", data := .seq vs.toArray }) : (∀ u ∈ vs, OkU A u) ∧ SqL K (argH K h A) a (vs.map toV) := by
  obtain ⟨us, h1, h2, h3⟩ := ar a ha
  have hu : us = vs := by
    rcases h3 with q | q
    · rw [e] at q
      exact (seq_inj q).2.symm
    · rw [e] at q
      exact absurd (Value.type.inj (seq_inj q).1) (by decide)
  subst hu
  refine ⟨h2, ?_⟩
  cases hk : K.lookup a with
  | none => exact .inl (.inr ⟨_, by rw [argH_at ha hk e, hoOf_lst]⟩)
  | some o =>
    have e2 := KX a o hk
    rw [e] at e2
    obtain rfl := Option.some.inj e2
    exact .inr ⟨_, us.toArray, _, hk, rfl, rfl, rfl, by rw [List.size_toArray]; exact h1, by simpa using vals_toV h2⟩
theorem argT (KX : K.In h) (ar : ∀ a ∈ A, ArgOb h A a) {a : Addr} {vs : List Value} (ha : a ∈ A) (e : h.get? a = some { cls := .type "tuple", data := .seq vs.toArray }) : (∀ u ∈ vs, OkU A u) ∧ SqT K (argH K h A) a (vs.map toV) := by
  obtain ⟨us, h1, h2, h3⟩ := ar a ha
  have hu : us = vs := by
    rcases h3 with q | q
    · rw [e] at q
      exact absurd (Value.type.inj (seq_inj q).1) (by decide)
    · rw [e] at q
      exact (seq_inj q).2.symm
  subst hu
  refine ⟨h2, ?_⟩
  cases hk : K.lookup a with
  | none => exact .inl (.inr ⟨_, by rw [argH_at ha hk e, hoOf_tup]⟩)
  | some o =>
    have e2 := KX a o hk
    rw [e] at e2
    obtain rfl := Option.some.inj e2
    exact .inr ⟨_, us.toArray, _, hk, rfl, rfl, by rw [List.size_toArray]; exact h1, by simpa using vals_toV h2⟩
mutual
theorem dw_one {Pm : Params} (KX : K.In h) (ar : ∀ a ∈ A, ArgOb h A a) : ∀ (d : WData) (v : Value), Well Pm h v d → plW d = true → OkU A v → Dw K (argH K h A) (toV v) d
  | .none, _, x, _, _ => by
    cases x
    exact .non
  | .bool b, _, x, _, _ => by
    cases x
    exact .bl b
  | .int i, _, x, _, _ => by
    cases x
    exact .int i
  | .str s, _, x, _, _ => by
    cases x
    exact .str s
  | .bytes b, _, x, _, _ => by
    cases x
    have z := Dw.byt (K := K) (H := argH K h A) b.toArray
    exact z
  | .list ds, _, x, p, hu => by
    obtain ⟨a, vs, rfl, ho, hall⟩ := well_list x
    obtain ⟨h2, hs⟩ := argL KX ar hu ho
    exact .lst hs (dw_all KX ar ds _ hall p h2)
  | .tuple ds, _, x, p, hu => by
    obtain ⟨a, vs, rfl, ho, hall⟩ := well_tuple x
    obtain ⟨h2, hs⟩ := argT KX ar hu ho
    exact .tup hs (dw_all KX ar ds _ hall p h2)
  | .float _, _, _, p, _ => Bool.noConfusion (show false = true from p)
  | .dict _, _, _, p, _ => Bool.noConfusion (show false = true from p)
  | .bytearray _, _, _, p, _ => Bool.noConfusion (show false = true from p)
  | .set _, _, _, p, _ => Bool.noConfusion (show false = true from p)
  | .frozenset _, _, _, p, _ => Bool.noConfusion (show false = true from p)
  | .obj _ _, _, _, p, _ => Bool.noConfusion (show false = true from p)
theorem dw_all {Pm : Params} (KX : K.In h) (ar : ∀ a ∈ A, ArgOb h A a) : ∀ (ds : List WData) (vs : List Value), WellAll Pm h vs ds → plWs ds = true → (∀ u ∈ vs, OkU A u) → DwAll K (argH K h A) (vs.map toV) ds
  | [], _, x, _, _ => by
    cases x
    exact .nil
  | d :: ds, _, x, p, hu => by
    obtain ⟨v, vs, rfl, x1, x2⟩ := well_cons x
    have q : plW d = true ∧ plWs ds = true := Bool.and_eq_true_iff.mp p
    exact .cons (dw_one KX ar d v x1 q.1 (hu _ (List.mem_cons_self ..))) (dw_all KX ar ds vs x2 q.2 fun u m => hu u (List.mem_cons_of_mem _ m))
end
end
/-! ### the call -/
theorem spec_call {P : Program} {w : World} {K : PySem.W.Frag} {mg mb : Str → Option Value} {CX : CXT} {k : Nat} {fa : Addr} {fd : FuncData} {ps : List Str} {sp : Sp} {s₁ : Shared} {vals : List Value} {ds : List WData} {R : PySem.W.WRecords} {cl : Str → Option Addr} {d0 : WData}
    (KX : K.In s₁.heap) (hns : s₁.heap.Ns mainGlobals mg) (hb : s₁.heap.Ns builtinsNs mb) (hbb : ∀ x : Str, x ≠ "__name__" → mb x = bootBuiltins x) (hlim : s₁.heap.NoLimit) (hg : s₁.gens = #[])
    (hwl : WellAll w.params s₁.heap vals ds) (hpl : plWs ds = true) (hwt : ∀ d ∈ ds, d.weight ≤ 1048576) (hr : Room k callerA)
    (F : ∀ base : Heap, K.In base → base.Ns mainGlobals mg → FnOk P w K mg base CX k fa fd ps sp) (hbind : ∀ (s : Shared) (us : List Value), us.length = ps.length → BindsTo s fd ⟨us, []⟩ (ps.zip us)) (hlen : ds.length = ps.length)
    (hsp : ∀ (H : Hp) (xs : List V), OnlyF H → DwAll K H xs ds → sp xs H (fun v H' => Dw K H' v d0) fun _ _ _ => False)
    (hCX : ∀ H e s', CX [] H s₁ (fun _ _ _ => False) e s' → False) :
    codeAny (model P w) callerA (.call (.ref fa) ⟨vals, []⟩) (fun r s' => ∃ u as, r = .ok (.ret u) ∧ ReadsW R cl s'.heap u d0 as ∧ OldK s₁.heap s'.heap ∧ s'.os = s₁.os ∧ AllBare s'.gens) s₁ := by
  obtain ⟨A, ho, ar⟩ := area_all ds vals hwl hpl hwt
  have hO : OnlyF (argH K s₁.heap A) := argH_only ar
  have hok : HOk P w (argH K s₁.heap A) s₁.heap := argH_ok ar
  have hS := dw_all KX ar ds vals hwl hpl ho
  have hV := vals_toV ho
  have hK : ∀ b u, argH K s₁.heap A b = some u → K.lookup b = none := fun b u q => (argH_is ar q).1
  have noA : ∀ {b : Addr} {o : Obj} {es : Array DictEntry} {ep : Nat}, s₁.heap.get? b = some o → o.data = .dict es ep → argH K s₁.heap A b = none := fun {b o es ep} e d => by
    cases q : argH K s₁.heap A b with
    | none => rfl
    | some u =>
      obtain ⟨_, vs, _, _, ⟨e2, _⟩ | ⟨e2, _⟩⟩ := argH_is ar q
      · rw [e2] at e
        cases e
        have d' : Data.seq vs.toArray _ = Data.dict es ep := d
        cases d'
      · rw [e2] at e
        cases e
        have d' : Data.seq vs.toArray _ = Data.dict es ep := d
        cases d'
  generalize argH K s₁.heap A = H at hO hok hS hK noA
  have base_of : ∀ {b : Addr} {o : Obj}, s₁.heap.get? b = some o → H b = none → (hidT s₁.heap H).get? b = some o := fun e n => hidT_get e n
  have nsK : ∀ {b : Addr} {m : Str → Option Value}, s₁.heap.Ns b m → (hidT s₁.heap H).Ns b m := fun {b m} ⟨o, es, ep, e, d, r⟩ => ⟨o, es, ep, base_of e (noA e d), d, r⟩
  have nK : ∀ b o, K.lookup b = some o → H b = none := fun b o e => by
    cases q : H b with
    | none => rfl
    | some u =>
      rw [hK b u q] at e
      cases e
  have hKb : K.In (hidT s₁.heap H) := fun b o e => base_of (KX b o e) (nK b o e)
  have hM : Mod K mg (hidT s₁.heap H) := ⟨hKb, nsK hns, ⟨mb, nsK hb, hbb⟩, let ⟨mc, h1, h2⟩ := hlim; ⟨mc, nsK h1, h2⟩⟩
  have e0 : Env0 P w K mg (hidT s₁.heap H) callerA [] s₁ H := ⟨rfl, hM, fun b o e => of_hidT e, Nat.le_of_eq (hidT_size _ _), trivial, fun b hb => absurd (show b ∈ ([] : List Addr) from hb) (by simp), hok, .of_eq hg⟩
  have hl : vals.length = ps.length := by rw [wellAll_len hwl]; exact hlen
  refine codeAny_mono ((F _ hKb (nsK hns)).run callerA [] s₁ H ⟨vals, []⟩ vals (vals.map toV) _ _ hr e0 (hbind s₁ vals hl) hV (hsp H _ hO hS)) fun r s' x => ?_
  cases r with
  | error e => exact (hCX H e s' x).elim
  | ok fl =>
    cases fl with
    | next => exact False.elim x
    | brk => exact False.elim x
    | cont => exact False.elim x
    | ret u =>
      obtain ⟨v, H', os, bare, un, hok', r', q⟩ := x
      have kept : ∀ b o, s₁.heap.get? b = some o → s'.heap.get? b = some o := fun b o e => by
        cases q2 : H b with
        | none => exact un.keep b o e q2 (by intro z; exact absurd (show b ∈ ([] : List Addr) from z) (by simp)) (by simp)
        | some u2 =>
          rcases hO b with z | ⟨ob, u3, z⟩
          · rw [q2] at z
            cases z
          · have z2 := un.frzs b ob _ z
            obtain ⟨e1, _⟩ := hok b _ z
            obtain ⟨e2, _⟩ := hok' b _ z2
            rw [e] at e1
            cases e1
            exact e2
      have KX' : K.In s'.heap := fun b o e => kept b o (KX b o e)
      obtain ⟨as, hrd⟩ := Dw.reads (R := R) (cl := cl) hok' KX' d0 v u q r'
      exact ⟨u, as, rfl, hrd, OldK.of_keep kept, os, bare⟩
/-! ### the row -/
theorem layable_weight {ds : List WData} (h : WData.layableAll ds = true) : ∀ d ∈ ds, d.weight ≤ 1048576 := fun d hd =>
  (PySem.W.layableW_iff.mp (List.all_eq_true.mp h d hd)).2.2
theorem encAll_len : ∀ (cs : List Codec) (a : Codec.denoteAll cs), (Codec.encAll cs a).length = cs.length
  | [], _ => rfl
  | c :: cs, a => by
    show (Codec.encAll cs a.2).length + 1 = cs.length + 1
    rw [encAll_len cs a.2]
/-- the goal that k_headS leaves (case hc), from the promise of the row's def: whatever the arguments that the codecs let and the row asks for, the def gives what stands for enc (f ..) -/
theorem walk_spec {r : OpenSpec} {k : Nat} {q : Program} {loose : List Str} {XP : (Str → Option Value) → Heap → Prop} {YP : World → Heap → Prop} {d : DefRec} {K : Params → PySem.W.Frag} {CX : World → CXT} {ps : List Str} {sp : World → Sp}
    (hwell : r.wellSaid = true) (hdf : d.params.defaults = []) (hlen : r.args.length = ps.length) (hr : Room k callerA)
    (hY : ∀ (w : World) (h : Heap), YP w h → (K w.params).In h)
    (F : ∀ (w : World) (mg : Str → Option Value) (fa : Addr) (h : Heap), YP w h → (K w.params).In h → h.Ns mainGlobals mg → mg d.name = some (.ref fa) →
      ∃ fd : FuncData, (∀ (s : Shared) (us : List Value), us.length = ps.length → BindsTo s fd ⟨us, []⟩ (ps.zip us)) ∧
        ∀ base : Heap, (K w.params).In base → base.Ns mainGlobals mg → FnOk r.prog w (K w.params) mg base (CX w) k fa fd ps (sp w))
    (hsp : ∀ (w : World) (H : Hp) (xs : List V) (a : Codec.denoteAll r.args), OnlyF H → Codec.withinAll r.args a = true → Codec.app r.args r.asked a = true → DwAll (K w.params) H xs (Codec.encAll r.args a) →
      sp w xs H (fun v H' => Dw (K w.params) H' v (r.ret.enc (Codec.app r.args r.f a))) fun _ _ _ => False)
    (hCX : ∀ (w : World) (H : Hp) (s : Shared) (e : Value) (s' : Shared), CX w [] H s (fun _ _ _ => False) e s' → False) :
    PySem.W.WalkOS q loose XP YP r d [] (fun f vs => PySem.call f vs) := by
  intro w s_0 s₁ mg mb G Y fa o pm cd doc dV kV ho hd hcd hD hmg hg args vals as hpre hlay hrd hwl hlo
  obtain ⟨a, e1, e2⟩ := PySem.W.os_pre_some hpre
  obtain ⟨e3, hwi⟩ := Codec.encAll_of_decAll r.args args a e1
  subst e3
  have KX := hY w _ Y
  obtain ⟨fd, hb, hF⟩ := F w mg fa _ Y KX G.T.g hmg
  refine PySem.W.enter_call (codeAny_mono (spec_call (R := []) (cl := classAt s_0.heap) (d0 := r.ret.enc (Codec.app r.args r.f a)) KX G.T.g G.T.b G.T.builtins G.T.nolimit hg hwl (pl_encAll _ _) (layable_weight hlay) hr hF hb (by rw [encAll_len]; exact hlen)
    (fun H xs hO hS => hsp w H xs a hO hwi e2 hS) fun H e s' => hCX w H s₁ e s') fun r' s' hq => ?_)
  obtain ⟨u, as', rfl, h1, h2, h3, h4⟩ := hq
  exact ⟨.inl ⟨u, _, as', rfl, fun _ => rfl, h1, (OpenSpec.post_iff hwell hwi _ _).mpr rfl, fun z => Bool.noConfusion (show false = true from z)⟩, h2, h3, h4⟩
/-- the same where the promise hangs on the written part alone -/
theorem walk_specK {r : OpenSpec} {k : Nat} {q : Program} {loose : List Str} {XP : (Str → Option Value) → Heap → Prop} {YP : World → Heap → Prop} {d : DefRec} {K : Params → PySem.W.Frag} {CX : CXT} {ps : List Str} {sp : PySem.W.Frag → Sp}
    (hwell : r.wellSaid = true) (hdf : d.params.defaults = []) (hlen : r.args.length = ps.length) (hr : Room k callerA)
    (hY : ∀ (w : World) (h : Heap), YP w h → (K w.params).In h)
    (F : ∀ (w : World) (mg : Str → Option Value) (fa : Addr) (h : Heap), YP w h → (K w.params).In h → h.Ns mainGlobals mg → mg d.name = some (.ref fa) →
      ∃ fd : FuncData, (∀ (s : Shared) (us : List Value), us.length = ps.length → BindsTo s fd ⟨us, []⟩ (ps.zip us)) ∧
        ∀ base : Heap, (K w.params).In base → base.Ns mainGlobals mg → FnOk r.prog w (K w.params) mg base CX k fa fd ps (sp (K w.params)))
    (hsp : ∀ (K : PySem.W.Frag) (H : Hp) (xs : List V) (a : Codec.denoteAll r.args), OnlyF H → Codec.withinAll r.args a = true → Codec.app r.args r.asked a = true → DwAll K H xs (Codec.encAll r.args a) →
      sp K xs H (fun v H' => Dw K H' v (r.ret.enc (Codec.app r.args r.f a))) fun _ _ _ => False)
    (hCX : ∀ (H : Hp) (s : Shared) (e : Value) (s' : Shared), CX [] H s (fun _ _ _ => False) e s' → False) :
    PySem.W.WalkOS q loose XP YP r d [] (fun f vs => PySem.call f vs) :=
  walk_spec (K := K) (CX := fun _ => CX) (sp := fun w => sp (K w.params)) hwell hdf hlen hr hY F (fun w H xs a h1 h2 h3 h4 => hsp (K w.params) H xs a h1 h2 h3 h4) fun _ H s e s' => hCX H s e s'
end L2
end
section
namespace Sh
open Km442

/-! ### what is used in an hour -/
theorem halving {p : Nat → Prop} [DecidablePred p] {K : Nat} : ∀ (l : List Nat) (lo hi : Nat), lo ≤ K → K ≤ hi → hi - lo < 2 ^ l.length → (∀ m, m ≤ hi → (p m ↔ m ≤ K)) →
    (l.foldl (fun (r : Nat × Nat) _ => if r.2 ≤ r.1 then r else
      let m := (r.1 + r.2 + 1) / 2
      if p m then (m, r.2) else (r.1, m - 1)) (lo, hi)).1 = K
  | [], lo, hi, h1, h2, h3, _ => by
    show lo = K
    have : hi - lo < 1 := h3
    omega
  | a :: l, lo, hi, h1, h2, h3, hp => by
    rw [List.foldl_cons]
    have h3' : hi - lo < 2 ^ l.length * 2 := by rw [← Nat.pow_succ]; exact h3
    by_cases hc : hi ≤ lo
    · have : (if (lo, hi).2 ≤ (lo, hi).1 then (lo, hi) else
          let m := ((lo, hi).1 + (lo, hi).2 + 1) / 2
          if p m then (m, (lo, hi).2) else ((lo, hi).1, m - 1)) = (lo, hi) := if_pos hc
      rw [this]
      have hpos : 0 < 2 ^ l.length := Nat.pow_pos (by decide)
      exact halving l lo hi h1 h2 (by omega) hp
    · have e1 : (if (lo, hi).2 ≤ (lo, hi).1 then (lo, hi) else
          let m := ((lo, hi).1 + (lo, hi).2 + 1) / 2
          if p m then (m, (lo, hi).2) else ((lo, hi).1, m - 1)) = (if p ((lo + hi + 1) / 2) then ((lo + hi + 1) / 2, hi) else (lo, (lo + hi + 1) / 2 - 1)) := if_neg hc
      rw [e1]
      by_cases hm : p ((lo + hi + 1) / 2)
      · rw [if_pos hm]
        have := (hp _ (by omega)).mp hm
        exact halving l _ _ this h2 (by omega) hp
      · rw [if_neg hm]
        have : ¬ (lo + hi + 1) / 2 ≤ K := fun q => hm ((hp _ (by omega)).mpr q)
        exact halving l _ _ h1 (by omega) (by omega) fun m h => hp m (by omega)

theorem uses_eq (s : Ship) (f g b : Nat) (hg : g ≤ s.greyMost) (hb : b ≤ s.blackMost) (hw : s.wants ≤ 400000) :
    s.usesNow f g b = min (min s.wants f) (min ((10 * (s.greyMost - g) + 9) / 9) (10 * (s.blackMost - b))) := by
  unfold Ship.usesNow
  refine halving (p := fun m => g + greyOf m ≤ s.greyMost ∧ b + (m - greyOf m) ≤ s.blackMost) (List.range 64) 0 (min s.wants f) (Nat.zero_le _) (Nat.min_le_left _ _) ?_ ?_
  · rw [List.length_range]
    have : (400001 : Nat) ≤ 2 ^ 64 := by decide
    omega
  · intro m hm
    unfold greyOf
    omega

theorem uses_le (s : Ship) (f g b : Nat) (hg : g ≤ s.greyMost) (hb : b ≤ s.blackMost) (hw : s.wants ≤ 400000) :
    s.usesNow f g b ≤ s.wants ∧ s.usesNow f g b ≤ f ∧ g + greyOf (s.usesNow f g b) ≤ s.greyMost ∧ b + (s.usesNow f g b - greyOf (s.usesNow f g b)) ≤ s.blackMost := by
  rw [uses_eq s f g b hg hb hw]
  unfold greyOf
  omega

/-! ### the way -/
theorem foldl_add : ∀ (l : List Nat) (a : Nat), l.foldl (· + ·) a = a + l.foldl (· + ·) 0
  | [], a => rfl
  | x :: l, a => by
    rw [List.foldl_cons, List.foldl_cons, foldl_add l (a + x), foldl_add l (0 + x)]
    omega
theorem sum_cons (x : Nat) (l : List Nat) : Km442.sum (x :: l) = x + Km442.sum l := by
  unfold Km442.sum
  rw [List.foldl_cons, foldl_add]
  omega
theorem sum_snoc (l : List Nat) (x : Nat) : Km442.sum (l ++ [x]) = Km442.sum l + x := by
  unfold Km442.sum
  rw [List.foldl_append]
  rfl
def endOf (l : List Leg) : Nat := Km442.sum (l.map fun x => x.hours)
theorem endOf_snoc (l : List Leg) (x : Leg) : endOf (l ++ [x]) = endOf l + x.hours := by
  unfold endOf
  rw [List.map_append]
  exact sum_snoc _ _
theorem endOf_cons (l : List Leg) (x : Leg) : endOf (x :: l) = x.hours + endOf l := by
  unfold endOf
  rw [List.map_cons]
  exact sum_cons _ _
theorem endOf_nil : endOf [] = 0 := rfl
theorem end_eq (s : Ship) : s.end_ = endOf s.legs := rfl

/-! ### what holds of a ship -/
structure Good (s : Ship) : Prop where
  fresh : s.fresh ≤ s.freshMost
  grey : s.grey ≤ s.greyMost
  black : s.black ≤ s.blackMost
  persons : s.persons ≤ 5000
  uses : s.uses ≤ 80
  legs : s.legs.length ≤ 10
theorem Good.wants {s : Ship} (h : Good s) : s.wants ≤ 400000 := by
  unfold Ship.wants
  exact Nat.le_trans (Nat.mul_le_mul h.persons h.uses) (by decide)
theorem goes_le (h g : Nat) (a b : Bool) : goes h g a b ≤ h := by
  unfold goes
  split
  · exact Nat.min_le_left _ _
  · exact Nat.zero_le _
theorem makes_le (s : Ship) (h : Good s) : s.fresh + s.makesNow ≤ s.freshMost := by
  have := h.fresh
  unfold Ship.makesNow
  split <;> omega
/-- the parts of an hour -/
def gN (s : Ship) : Nat := goes s.grey s.greyGo s.letGrey (mayGrey (s.leg s.hour))
def bN (s : Ship) : Nat := goes s.black s.blackGo s.letBlack (mayBlack (s.leg s.hour))
def uN (s : Ship) : Nat := s.usesNow (s.fresh + s.makesNow) (s.grey - gN s) (s.black - bN s)
theorem uN_le {s : Ship} (h : Good s) : uN s ≤ s.wants ∧ uN s ≤ s.fresh + s.makesNow ∧ s.grey - gN s + greyOf (uN s) ≤ s.greyMost ∧ s.black - bN s + (uN s - greyOf (uN s)) ≤ s.blackMost := by
  have h1 := h.grey
  have h2 := h.black
  exact uses_le s _ _ _ (by omega) (by omega) h.wants
theorem uN_eq {s : Ship} (h : Good s) : uN s = min (min s.wants (s.fresh + s.makesNow)) (min ((10 * (s.greyMost - (s.grey - gN s)) + 9) / 9) (10 * (s.blackMost - (s.black - bN s)))) := by
  have h1 := h.grey
  have h2 := h.black
  exact uses_eq s _ _ _ (by omega) (by omega) h.wants
theorem hourly_eq (s : Ship) : s.hourly = { s with
    hour := s.hour + 1
    fresh := s.fresh + s.makesNow - uN s
    grey := s.grey - gN s + greyOf (uN s)
    black := s.black - bN s + (uN s - greyOf (uN s))
    made := s.made + s.makesNow, used := s.used + uN s, goneGrey := s.goneGrey + gN s, goneBlack := s.goneBlack + bN s
    lacked := s.lacked + (s.wants - uN s) } := rfl
theorem Good.hourly {s : Ship} (h : Good s) : Good s.hourly := by
  have u := uN_le h
  have m := makes_le s h
  rw [hourly_eq]
  exact ⟨(by show s.fresh + s.makesNow - uN s ≤ s.freshMost; omega), u.2.2.1, u.2.2.2, h.persons, h.uses, h.legs⟩
theorem Good.hours {s : Ship} : ∀ (n : Nat), Good s → Good (s.hours n) := fun n => by
  induction n generalizing s with
  | zero => exact id
  | succ n ih => exact fun h => ih h.hourly
theorem hours_snoc : ∀ (n : Nat) (s : Ship), s.hours (n + 1) = (s.hours n).hourly
  | 0, _ => rfl
  | n + 1, s => hours_snoc n s.hourly
theorem lacked_mono (s : Ship) : s.lacked ≤ s.hourly.lacked := Nat.le_add_right _ _
theorem hours_lacked (s : Ship) : ∀ n, s.lacked ≤ (s.hours n).lacked
  | 0 => Nat.le_refl _
  | n + 1 => by
    rw [hours_snoc]
    exact Nat.le_trans (hours_lacked s n) (lacked_mono _)

/-! ### the loops of asking -/
/-- nothing lacked in n hours; what ww_lasts answers -/
theorem lastsGo_stop : ∀ (f n : Nat) (s0 s : Ship) (k : Nat), s = s0.hours n → (∀ j, j ≤ n → (s0.hours j).lacked = s0.lacked) → n ≤ k → k < n + f → (∀ j, j ≤ k → (s0.hours j).lacked = s0.lacked) → s0.lacked < (s0.hours (k + 1)).lacked → lastsGo f n s = k
  | 0, n, s0, s, k, _, _, h1, h2, _, _ => by omega
  | f + 1, n, s0, s, k, e, h0, h1, h2, h3, h4 => by
    subst e
    show (if (s0.hours n).lacked < (s0.hours n).hourly.lacked then n else lastsGo f (n + 1) (s0.hours n).hourly) = k
    rw [← hours_snoc]
    by_cases c : n = k
    · subst c
      rw [if_pos (by rw [h3 n (Nat.le_refl _)]; exact h4)]
    · have l1 := h3 (n + 1) (by omega)
      rw [if_neg (by rw [h3 n (by omega), l1]; exact Nat.lt_irrefl _)]
      exact lastsGo_stop f (n + 1) s0 _ k rfl (fun j hj => h3 j (by omega)) (by omega) (by omega) h3 h4
theorem lastsGo_all : ∀ (f n : Nat) (s0 s : Ship), s = s0.hours n → (∀ j, j ≤ n + f → (s0.hours j).lacked = s0.lacked) → lastsGo f n s = n + f
  | 0, n, _, _, _, _ => rfl
  | f + 1, n, s0, s, e, h => by
    subst e
    show (if (s0.hours n).lacked < (s0.hours n).hourly.lacked then n else lastsGo f (n + 1) (s0.hours n).hourly) = _
    rw [← hours_snoc, if_neg (by rw [h n (by omega), h (n + 1) (by omega)]; exact Nat.lt_irrefl _), lastsGo_all f (n + 1) s0 _ rfl fun j hj => h j (by omega)]
    omega
theorem lasts_stop (s : Ship) (k : Nat) (hk : k < 500) (h3 : ∀ j, j ≤ k → (s.hours j).lacked = s.lacked) (h4 : s.lacked < (s.hours (k + 1)).lacked) : s.lasts = k :=
  lastsGo_stop 500 0 s s k rfl (fun j hj => h3 j (by omega)) (Nat.zero_le _) (by omega) h3 h4
theorem lasts_all (s : Ship) (h : ∀ j, j ≤ 500 → (s.hours j).lacked = s.lacked) : s.lasts = 500 := by
  have := lastsGo_all 500 0 s s rfl (fun j hj => h j (by omega))
  exact this
/-- a search over a range -/
theorem find_range_some {p : Nat → Bool} {n k : Nat} (hk : k < n) (hp : p k = true) (h : ∀ j, j < k → p j = false) : (List.range n).find? p = some k := by
  rw [List.find?_range_eq_some]
  exact ⟨hp, List.mem_range.mpr hk, fun j hj => by rw [h j hj]; rfl⟩
theorem find_range_none {p : Nat → Bool} {n : Nat} (h : ∀ j, j < n → p j = false) : (List.range n).find? p = none := by
  rw [List.find?_range_eq_none]
  exact fun j hj => by rw [h j hj]; rfl
/-- when a tank is so full -/
def Full (h : Nat) (s : Ship) : Prop := s.greyMost * h ≤ s.grey * 100 ∨ s.blackMost * h ≤ s.black * 100
instance fullDec (h : Nat) (s : Ship) : Decidable (Full h s) := inferInstanceAs (Decidable (_ ∨ _))
theorem fullGo_some : ∀ (f n h : Nat) (s0 s : Ship) (k : Nat), s = s0.hours n → n ≤ k → k < n + f → (∀ j, j < k → ¬ Full h (s0.hours j)) → Full h (s0.hours k) → fullGo f n h s = some k
  | 0, n, h, s0, s, k, _, h1, h2, _, _ => by omega
  | f + 1, n, h, s0, s, k, e, h1, h2, h3, h4 => by
    subst e
    show (if Full h (s0.hours n) then some n else fullGo f (n + 1) h (s0.hours n).hourly) = some k
    by_cases c : n = k
    · subst c
      rw [if_pos h4]
    · rw [if_neg (h3 n (by omega)), ← hours_snoc]
      exact fullGo_some f (n + 1) h s0 _ k rfl (by omega) (by omega) h3 h4
theorem fullGo_none : ∀ (f n h : Nat) (s0 s : Ship), s = s0.hours n → (∀ j, j < n + f → ¬ Full h (s0.hours j)) → fullGo f n h s = none
  | 0, _, _, _, _, _, _ => rfl
  | f + 1, n, h, s0, s, e, h3 => by
    subst e
    show (if Full h (s0.hours n) then some n else fullGo f (n + 1) h (s0.hours n).hourly) = none
    rw [if_neg (h3 n (by omega)), ← hours_snoc]
    exact fullGo_none f (n + 1) h s0 _ rfl fun j hj => h3 j (by omega)
end Sh
end
section
namespace Sh
open Km442

/-! ### what holds of the desk -/
structure GoodD (d : Desk) : Prop where
  now : Good d.now
  past : ∀ s ∈ d.past, Good s
  fut : ∀ s ∈ d.future, Good s
  len : d.past.length + d.future.length ≤ 30
theorem GoodD.become {d : Desk} (h : GoodD d) {s : Ship} (hs : Good s) : GoodD (d.become s) := by
  refine ⟨hs, fun x hx => ?_, (fun x hx => nomatch hx), ?_⟩
  · have := List.mem_of_mem_take hx
    rcases List.mem_cons.mp this with e | e
    · rw [e]; exact h.now
    · exact h.past x e
  · show ((d.now :: d.past).take PAST).length + 0 ≤ 30
    rw [List.length_take]
    show min 30 _ + 0 ≤ 30
    omega
theorem goodOpened (a b c e f g : Nat) : GoodD ⟨opened a b c e f g, [], []⟩ :=
  ⟨⟨Nat.le_refl _, Nat.zero_le _, Nat.zero_le _, Nat.zero_le _, Nat.zero_le _, Nat.zero_le _⟩, (fun _ h => nomatch h), (fun _ h => nomatch h), Nat.zero_le _⟩
theorem GoodD.act {d : Desk} (h : GoodD d) (c : Call) : GoodD (act d c).1 := by
  cases c with
  | start a b c e f g =>
    show GoodD (if okStart a b c e f g = false then (d, only (-22)) else _).1
    split
    · exact h
    · exact goodOpened a b c e f g
  | leg x m k =>
    show GoodD (ite (α := Desk × Ans) _ _ _).1
    split
    · exact h
    · split
      · exact h
      · rename_i hl
        split
        · exact h
        · refine h.become ⟨h.now.fresh, h.now.grey, h.now.black, h.now.persons, h.now.uses, ?_⟩
          show (d.now.legs ++ [_]).length ≤ 10
          rw [List.length_append]
          have : ¬ 10 ≤ d.now.legs.length := hl
          simp
          omega
  | persons n u =>
    show GoodD (ite (α := Desk × Ans) _ _ _).1
    split
    · exact h
    · exact h.become ⟨h.now.fresh, h.now.grey, h.now.black, (by show n ≤ 5000; omega), (by show u ≤ 80; omega), h.now.legs⟩
  | set_ a g b =>
    show GoodD (ite (α := Desk × Ans) _ _ _).1
    split
    · exact h
    · split
      · exact h
      · exact h.become ⟨h.now.fresh, h.now.grey, h.now.black, h.now.persons, h.now.uses, h.now.legs⟩
  | bunker n =>
    show GoodD (ite (α := Desk × Ans) _ _ _).1
    split
    · exact h
    · split
      · exact h
      · split
        · exact h
        · split
          · exact h
          · exact h.become ⟨(by show d.now.fresh + n ≤ d.now.freshMost; omega), h.now.grey, h.now.black, h.now.persons, h.now.uses, h.now.legs⟩
  | shore g b =>
    show GoodD (ite (α := Desk × Ans) _ _ _).1
    split
    · exact h
    · split
      · exact h
      · split
        · exact h
        · have h1 := h.now.grey
          have h2 := h.now.black
          exact h.become ⟨h.now.fresh, (by show d.now.grey - g ≤ d.now.greyMost; omega), (by show d.now.black - b ≤ d.now.blackMost; omega), h.now.persons, h.now.uses, h.now.legs⟩
  | hours n =>
    show GoodD (ite (α := Desk × Ans) _ _ _).1
    split
    · exact h
    · split
      · exact h
      · show GoodD (ite (α := Desk × Ans) _ _ _).1
        split
        · exact h
        · exact h.become (h.now.hours n)
  | lasts => exact h
  | nextGo => exact h
  | may => exact h
  | ahead n => exact h
  | room => exact h
  | wants => exact h
  | where_ t => exact h
  | legOf k => exact h
  | end_ => exact h
  | full n => exact h
  | tanks => exact h
  | flows => exact h
  | sums => exact h
  | back =>
    obtain ⟨n, p, f⟩ := d
    cases p with
    | nil => exact h
    | cons k r =>
      refine ⟨h.past k (List.mem_cons_self), fun x hx => h.past x (List.mem_cons_of_mem _ hx), fun x hx => ?_, ?_⟩
      · rcases List.mem_cons.mp hx with e | e
        · rw [e]; exact h.now
        · exact h.fut x e
      · have := h.len
        show r.length + (n :: f).length ≤ 30
        simp only [List.length_cons] at this ⊢
        omega
  | again =>
    obtain ⟨n, p, f⟩ := d
    cases f with
    | nil => exact h
    | cons k r =>
      refine ⟨h.fut k (List.mem_cons_self), fun x hx => ?_, fun x hx => h.fut x (List.mem_cons_of_mem _ hx), ?_⟩
      · have := List.mem_of_mem_take hx
        rcases List.mem_cons.mp this with e | e
        · rw [e]; exact h.now
        · exact h.past x e
      · have := h.len
        show ((n :: p).take PAST).length + r.length ≤ 30
        rw [List.length_take]
        simp only [List.length_cons] at this ⊢
        show min 30 _ + _ ≤ 30
        omega
  | state => exact h
/-- done again: nothing is lost -/
theorem again_take {n k : Ship} {p r : List Ship} (h : GoodD ⟨n, p, k :: r⟩) : (n :: p).take PAST = n :: p := by
  have := h.len
  refine List.take_of_length_le ?_
  show p.length + 1 ≤ 30
  have this : p.length + (k :: r).length ≤ 30 := this
  rw [List.length_cons] at this
  omega

/-! ### a call in the flat list -/
inductive IsCall : Nat → List Int → Call → Prop
  | start (a b c d e f : Nat) : IsCall 0 [(a : Int), (b : Int), (c : Int), (d : Int), (e : Int), (f : Int)] (.start a b c d e f)
  | leg (a b c : Nat) : IsCall 1 [(a : Int), (b : Int), (c : Int)] (.leg a b c)
  | persons (a b : Nat) : IsCall 2 [(a : Int), (b : Int)] (.persons a b)
  | set_ (a b c : Nat) : IsCall 3 [(a : Int), (b : Int), (c : Int)] (.set_ a b c)
  | bunker (a : Nat) : IsCall 4 [(a : Int)] (.bunker a)
  | shore (a b : Nat) : IsCall 5 [(a : Int), (b : Int)] (.shore a b)
  | hours (a : Nat) : IsCall 6 [(a : Int)] (.hours a)
  | lasts : IsCall 7 [] .lasts
  | nextGo : IsCall 8 [] .nextGo
  | may : IsCall 9 [] .may
  | ahead (a : Nat) : IsCall 10 [(a : Int)] (.ahead a)
  | room : IsCall 11 [] .room
  | wants : IsCall 12 [] .wants
  | where_ (a : Nat) : IsCall 13 [(a : Int)] (.where_ a)
  | legOf (a : Nat) : IsCall 14 [(a : Int)] (.legOf a)
  | end_ : IsCall 15 [] .end_
  | full (a : Nat) : IsCall 16 [(a : Int)] (.full a)
  | tanks : IsCall 17 [] .tanks
  | flows : IsCall 18 [] .flows
  | sums : IsCall 19 [] .sums
  | back : IsCall 20 [] .back
  | again : IsCall 21 [] .again
  | state : IsCall 22 [] .state
/-- how many numbers a call takes -/
def width : Nat → Nat
  | 0 => 6 | 1 => 3 | 2 => 2 | 3 => 3 | 4 => 1 | 5 => 2 | 6 => 1 | 10 => 1 | 13 => 1 | 14 => 1 | 16 => 1 | _ => 0
theorem IsCall.lt {k : Nat} {xs : List Int} {c : Call} (h : IsCall k xs c) : k < 23 := by cases h <;> decide
theorem IsCall.len {k : Nat} {xs : List Int} {c : Call} (h : IsCall k xs c) : xs.length = width k := by cases h <;> rfl

theorem nat_of {b : Int} (h : Km442Neutral.natural b 32 = true) : ∃ n : Nat, b = (n : Int) := by
  unfold Km442Neutral.natural at h
  rw [Bool.and_eq_true] at h
  have := of_decide_eq_true h.1
  exact ⟨b.toNat, by omega⟩
theorem len1 {xs : List Int} (h : xs.length = 1) : ∃ a, xs = [a] := by
  cases xs with
  | nil => cases h
  | cons a t => exact ⟨a, by rw [List.length_eq_zero_iff.mp (Nat.succ.inj h)]⟩
theorem lenS {xs : List Int} {n : Nat} (h : xs.length = n + 1) : ∃ a t, xs = a :: t ∧ t.length = n := by
  cases xs with
  | nil => cases h
  | cons a t => exact ⟨a, t, rfl, Nat.succ.inj h⟩
/-- a call of the form that may be asked: what it is -/
def CallAt (m : Nat) (xs : List Int) : Prop := PyKm442.whole [(m : Int) :: xs] = [(m : Int) :: xs] ∧ (Km442Neutral.asked1 [(m : Int) :: xs] = true → ∃ x, IsCall m xs x ∧ Km442Neutral.callOf [(m : Int) :: xs] = some x)
theorem callAt0 {xs : List Int} (h : xs.length = 6) : CallAt 0 xs := by
  obtain ⟨b0, t0, rfl, h0⟩ := lenS h
  obtain ⟨b1, t1, rfl, h1⟩ := lenS h0
  obtain ⟨b2, t2, rfl, h2⟩ := lenS h1
  obtain ⟨b3, t3, rfl, h3⟩ := lenS h2
  obtain ⟨b4, t4, rfl, h4⟩ := lenS h3
  obtain ⟨b5, rfl⟩ := len1 h4
  refine ⟨rfl, fun g => ?_⟩
  have g : (Km442Neutral.natural b0 32 && Km442Neutral.natural b1 32 && Km442Neutral.natural b2 32 && Km442Neutral.natural b3 32 && Km442Neutral.natural b4 32 && Km442Neutral.natural b5 32) = true := g
  simp only [Bool.and_eq_true] at g
  obtain ⟨⟨⟨⟨⟨g0, g1⟩, g2⟩, g3⟩, g4⟩, g5⟩ := g
  obtain ⟨n0, rfl⟩ := nat_of g0
  obtain ⟨n1, rfl⟩ := nat_of g1
  obtain ⟨n2, rfl⟩ := nat_of g2
  obtain ⟨n3, rfl⟩ := nat_of g3
  obtain ⟨n4, rfl⟩ := nat_of g4
  obtain ⟨n5, rfl⟩ := nat_of g5
  exact ⟨_, .start n0 n1 n2 n3 n4 n5, rfl⟩
theorem callAt1 {xs : List Int} (h : xs.length = 3) : CallAt 1 xs := by
  obtain ⟨b0, t0, rfl, h0⟩ := lenS h
  obtain ⟨b1, t1, rfl, h1⟩ := lenS h0
  obtain ⟨b2, rfl⟩ := len1 h1
  refine ⟨rfl, fun g => ?_⟩
  have g : (Km442Neutral.natural b0 32 && Km442Neutral.natural b1 32 && Km442Neutral.natural b2 32) = true := g
  simp only [Bool.and_eq_true] at g
  obtain ⟨⟨g0, g1⟩, g2⟩ := g
  obtain ⟨n0, rfl⟩ := nat_of g0
  obtain ⟨n1, rfl⟩ := nat_of g1
  obtain ⟨n2, rfl⟩ := nat_of g2
  exact ⟨_, .leg n0 n1 n2, rfl⟩
theorem callAt2 {xs : List Int} (h : xs.length = 2) : CallAt 2 xs := by
  obtain ⟨b0, t0, rfl, h0⟩ := lenS h
  obtain ⟨b1, rfl⟩ := len1 h0
  refine ⟨rfl, fun g => ?_⟩
  have g : (Km442Neutral.natural b0 32 && Km442Neutral.natural b1 32) = true := g
  simp only [Bool.and_eq_true] at g
  obtain ⟨g0, g1⟩ := g
  obtain ⟨n0, rfl⟩ := nat_of g0
  obtain ⟨n1, rfl⟩ := nat_of g1
  exact ⟨_, .persons n0 n1, rfl⟩
theorem callAt3 {xs : List Int} (h : xs.length = 3) : CallAt 3 xs := by
  obtain ⟨b0, t0, rfl, h0⟩ := lenS h
  obtain ⟨b1, t1, rfl, h1⟩ := lenS h0
  obtain ⟨b2, rfl⟩ := len1 h1
  refine ⟨rfl, fun g => ?_⟩
  have g : (Km442Neutral.natural b0 32 && Km442Neutral.natural b1 32 && Km442Neutral.natural b2 32) = true := g
  simp only [Bool.and_eq_true] at g
  obtain ⟨⟨g0, g1⟩, g2⟩ := g
  obtain ⟨n0, rfl⟩ := nat_of g0
  obtain ⟨n1, rfl⟩ := nat_of g1
  obtain ⟨n2, rfl⟩ := nat_of g2
  exact ⟨_, .set_ n0 n1 n2, rfl⟩
theorem callAt4 {xs : List Int} (h : xs.length = 1) : CallAt 4 xs := by
  obtain ⟨b0, rfl⟩ := len1 h
  refine ⟨rfl, fun g => ?_⟩
  have g : (Km442Neutral.natural b0 32) = true := g
  have g0 := g
  obtain ⟨n0, rfl⟩ := nat_of g0
  exact ⟨_, .bunker n0, rfl⟩
theorem callAt5 {xs : List Int} (h : xs.length = 2) : CallAt 5 xs := by
  obtain ⟨b0, t0, rfl, h0⟩ := lenS h
  obtain ⟨b1, rfl⟩ := len1 h0
  refine ⟨rfl, fun g => ?_⟩
  have g : (Km442Neutral.natural b0 32 && Km442Neutral.natural b1 32) = true := g
  simp only [Bool.and_eq_true] at g
  obtain ⟨g0, g1⟩ := g
  obtain ⟨n0, rfl⟩ := nat_of g0
  obtain ⟨n1, rfl⟩ := nat_of g1
  exact ⟨_, .shore n0 n1, rfl⟩
theorem callAt6 {xs : List Int} (h : xs.length = 1) : CallAt 6 xs := by
  obtain ⟨b0, rfl⟩ := len1 h
  refine ⟨rfl, fun g => ?_⟩
  have g : (Km442Neutral.natural b0 32) = true := g
  have g0 := g
  obtain ⟨n0, rfl⟩ := nat_of g0
  exact ⟨_, .hours n0, rfl⟩
theorem callAt7 {xs : List Int} (h : xs.length = 0) : CallAt 7 xs := by
  cases List.length_eq_zero_iff.mp h
  exact ⟨rfl, fun _ => ⟨_, .lasts, rfl⟩⟩
theorem callAt8 {xs : List Int} (h : xs.length = 0) : CallAt 8 xs := by
  cases List.length_eq_zero_iff.mp h
  exact ⟨rfl, fun _ => ⟨_, .nextGo, rfl⟩⟩
theorem callAt9 {xs : List Int} (h : xs.length = 0) : CallAt 9 xs := by
  cases List.length_eq_zero_iff.mp h
  exact ⟨rfl, fun _ => ⟨_, .may, rfl⟩⟩
theorem callAt10 {xs : List Int} (h : xs.length = 1) : CallAt 10 xs := by
  obtain ⟨b0, rfl⟩ := len1 h
  refine ⟨rfl, fun g => ?_⟩
  have g : (Km442Neutral.natural b0 32) = true := g
  have g0 := g
  obtain ⟨n0, rfl⟩ := nat_of g0
  exact ⟨_, .ahead n0, rfl⟩
theorem callAt11 {xs : List Int} (h : xs.length = 0) : CallAt 11 xs := by
  cases List.length_eq_zero_iff.mp h
  exact ⟨rfl, fun _ => ⟨_, .room, rfl⟩⟩
theorem callAt12 {xs : List Int} (h : xs.length = 0) : CallAt 12 xs := by
  cases List.length_eq_zero_iff.mp h
  exact ⟨rfl, fun _ => ⟨_, .wants, rfl⟩⟩
theorem callAt13 {xs : List Int} (h : xs.length = 1) : CallAt 13 xs := by
  obtain ⟨b0, rfl⟩ := len1 h
  refine ⟨rfl, fun g => ?_⟩
  have g : (Km442Neutral.natural b0 32) = true := g
  have g0 := g
  obtain ⟨n0, rfl⟩ := nat_of g0
  exact ⟨_, .where_ n0, rfl⟩
theorem callAt14 {xs : List Int} (h : xs.length = 1) : CallAt 14 xs := by
  obtain ⟨b0, rfl⟩ := len1 h
  refine ⟨rfl, fun g => ?_⟩
  have g : (Km442Neutral.natural b0 32) = true := g
  have g0 := g
  obtain ⟨n0, rfl⟩ := nat_of g0
  exact ⟨_, .legOf n0, rfl⟩
theorem callAt15 {xs : List Int} (h : xs.length = 0) : CallAt 15 xs := by
  cases List.length_eq_zero_iff.mp h
  exact ⟨rfl, fun _ => ⟨_, .end_, rfl⟩⟩
theorem callAt16 {xs : List Int} (h : xs.length = 1) : CallAt 16 xs := by
  obtain ⟨b0, rfl⟩ := len1 h
  refine ⟨rfl, fun g => ?_⟩
  have g : (Km442Neutral.natural b0 32) = true := g
  have g0 := g
  obtain ⟨n0, rfl⟩ := nat_of g0
  exact ⟨_, .full n0, rfl⟩
theorem callAt17 {xs : List Int} (h : xs.length = 0) : CallAt 17 xs := by
  cases List.length_eq_zero_iff.mp h
  exact ⟨rfl, fun _ => ⟨_, .tanks, rfl⟩⟩
theorem callAt18 {xs : List Int} (h : xs.length = 0) : CallAt 18 xs := by
  cases List.length_eq_zero_iff.mp h
  exact ⟨rfl, fun _ => ⟨_, .flows, rfl⟩⟩
theorem callAt19 {xs : List Int} (h : xs.length = 0) : CallAt 19 xs := by
  cases List.length_eq_zero_iff.mp h
  exact ⟨rfl, fun _ => ⟨_, .sums, rfl⟩⟩
theorem callAt20 {xs : List Int} (h : xs.length = 0) : CallAt 20 xs := by
  cases List.length_eq_zero_iff.mp h
  exact ⟨rfl, fun _ => ⟨_, .back, rfl⟩⟩
theorem callAt21 {xs : List Int} (h : xs.length = 0) : CallAt 21 xs := by
  cases List.length_eq_zero_iff.mp h
  exact ⟨rfl, fun _ => ⟨_, .again, rfl⟩⟩
theorem callAt22 {xs : List Int} (h : xs.length = 0) : CallAt 22 xs := by
  cases List.length_eq_zero_iff.mp h
  exact ⟨rfl, fun _ => ⟨_, .state, rfl⟩⟩
theorem call_at : ∀ {m : Nat}, m < 23 → ∀ {xs : List Int}, xs.length = width m → CallAt m xs := by
  intro m hm xs hx
  have hs : m = 0 ∨ m = 1 ∨ m = 2 ∨ m = 3 ∨ m = 4 ∨ m = 5 ∨ m = 6 ∨ m = 7 ∨ m = 8 ∨ m = 9 ∨ m = 10 ∨ m = 11 ∨ m = 12 ∨ m = 13 ∨ m = 14 ∨ m = 15 ∨ m = 16 ∨ m = 17 ∨ m = 18 ∨ m = 19 ∨ m = 20 ∨ m = 21 ∨ m = 22 := by omega
  rcases hs with rfl | rfl | rfl | rfl | rfl | rfl | rfl | rfl | rfl | rfl | rfl | rfl | rfl | rfl | rfl | rfl | rfl | rfl | rfl | rfl | rfl | rfl | rfl
  · exact callAt0 hx
  · exact callAt1 hx
  · exact callAt2 hx
  · exact callAt3 hx
  · exact callAt4 hx
  · exact callAt5 hx
  · exact callAt6 hx
  · exact callAt7 hx
  · exact callAt8 hx
  · exact callAt9 hx
  · exact callAt10 hx
  · exact callAt11 hx
  · exact callAt12 hx
  · exact callAt13 hx
  · exact callAt14 hx
  · exact callAt15 hx
  · exact callAt16 hx
  · exact callAt17 hx
  · exact callAt18 hx
  · exact callAt19 hx
  · exact callAt20 hx
  · exact callAt21 hx
  · exact callAt22 hx

/-! ### what is left of a line, and what is due of it -/
/-- one call made: what is there behind it, what is answered -/
inductive Made : Option Desk → Call → Option Desk → List Int → Prop
  | call (d : Desk) (x : Call) : Made (some d) x (some (act d x).1) (Km442Neutral.told (act d x).2)
  | no (a b c d e f : Nat) (h : okStart a b c d e f = false) : Made none (.start a b c d e f) none [-22]
  | first (a b c d e f : Nat) (h : okStart a b c d e f = true) : Made none (.start a b c d e f) (some ⟨opened a b c d e f, [], []⟩) [0]
def Rem (s : Option Desk) (l out : List Int) : Prop := ∃ (f : Nat) (cs : List (List (List Int))), PyFlat.calls PyKm442.shape f l = some cs ∧ cs.all Km442Neutral.asked1 = true ∧ Km442Neutral.may s cs = true ∧ out = PyFlat.told (PyFlat.played Km442Neutral.step s cs)
/-- which call a place is, and how many numbers it takes -/
def Shp (p : Int) (n k : Nat) : Prop := k = 0 ∧ ∃ m : Nat, m < 23 ∧ p = (m : Int) ∧ n = width m
theorem shp_step {p c : Int} {j a n k : Nat} {r : Option (Nat × Nat)} (hj : j < 23) (hc : c = (j : Int)) (ha : a = width j) (h : (if p = c then some (a, 0) else r) = some (n, k)) (hr : r = some (n, k) → Shp p n k) : Shp p n k := by
  by_cases q : p = c
  · rw [if_pos q] at h
    cases h
    exact ⟨rfl, j, hj, q.trans hc, ha⟩
  · rw [if_neg q] at h
    exact hr h
theorem shape_at {p : Int} {n k : Nat} (h : PyKm442.shape p = some (n, k)) : Shp p n k := by
  unfold PyKm442.shape at h
  refine shp_step (j := 0) (by decide) rfl rfl h fun h => ?_
  refine shp_step (j := 1) (by decide) rfl rfl h fun h => ?_
  refine shp_step (j := 2) (by decide) rfl rfl h fun h => ?_
  refine shp_step (j := 3) (by decide) rfl rfl h fun h => ?_
  refine shp_step (j := 4) (by decide) rfl rfl h fun h => ?_
  refine shp_step (j := 5) (by decide) rfl rfl h fun h => ?_
  refine shp_step (j := 6) (by decide) rfl rfl h fun h => ?_
  refine shp_step (j := 7) (by decide) rfl rfl h fun h => ?_
  refine shp_step (j := 8) (by decide) rfl rfl h fun h => ?_
  refine shp_step (j := 9) (by decide) rfl rfl h fun h => ?_
  refine shp_step (j := 10) (by decide) rfl rfl h fun h => ?_
  refine shp_step (j := 11) (by decide) rfl rfl h fun h => ?_
  refine shp_step (j := 12) (by decide) rfl rfl h fun h => ?_
  refine shp_step (j := 13) (by decide) rfl rfl h fun h => ?_
  refine shp_step (j := 14) (by decide) rfl rfl h fun h => ?_
  refine shp_step (j := 15) (by decide) rfl rfl h fun h => ?_
  refine shp_step (j := 16) (by decide) rfl rfl h fun h => ?_
  refine shp_step (j := 17) (by decide) rfl rfl h fun h => ?_
  refine shp_step (j := 18) (by decide) rfl rfl h fun h => ?_
  refine shp_step (j := 19) (by decide) rfl rfl h fun h => ?_
  refine shp_step (j := 20) (by decide) rfl rfl h fun h => ?_
  refine shp_step (j := 21) (by decide) rfl rfl h fun h => ?_
  refine shp_step (j := 22) (by decide) rfl rfl h fun h => ?_
  cases h
theorem call_whole {p : Int} {r t : List Int} {c : List (List Int)} (h : PyFlat.call PyKm442.shape (p :: r) = some (c, t)) : PyKm442.whole c = c := by
  unfold PyFlat.call at h
  dsimp only at h
  cases e : PyKm442.shape p with
  | none =>
    rw [e] at h
    cases h
  | some nk =>
    obtain ⟨n, k⟩ := nk
    obtain ⟨rfl, m, hm, rfl, rfl⟩ := shape_at e
    rw [e] at h
    dsimp only at h
    by_cases hl : r.length < width m
    · rw [if_pos hl] at h
      cases h
    · rw [if_neg hl] at h
      cases h
      exact (call_at hm (by rw [List.length_take]; omega)).1
theorem calls_whole : ∀ {f : Nat} {l : List Int} {cs : List (List (List Int))}, PyFlat.calls PyKm442.shape f l = some cs → cs.map PyKm442.whole = cs
  | f, [], cs, h => by
    have : cs = [] := by cases f <;> exact (Option.some.inj h).symm
    subst this
    rfl
  | 0, _ :: _, _, hz0 => by cases hz0
  | f + 1, p :: r, cs, h => by
    unfold PyFlat.calls at h
    cases e : PyFlat.call PyKm442.shape (p :: r) with
    | none =>
      rw [e] at h
      cases h
    | some ct =>
      obtain ⟨c, t⟩ := ct
      rw [e] at h
      dsimp only at h
      cases e2 : PyFlat.calls PyKm442.shape f t with
      | none =>
        rw [e2] at h
        cases h
      | some cs' =>
        rw [e2] at h
        cases h
        rw [List.map_cons, call_whole e, calls_whole e2]
theorem Rem.start {l : List Int} (h : PyKm442.answers_asked l = true) : Rem none l (PyKm442.answers l) ∧ (PyKm442.answers l).length ≤ 10000000 := by
  unfold PyKm442.answers_asked at h
  split at h
  · cases h
  · rename_i raw hr
    rw [Bool.and_eq_true, Bool.and_eq_true, calls_whole hr] at h
    obtain ⟨⟨_, ha⟩, hs⟩ := h
    unfold Km442Neutral.asked at ha
    rw [Bool.and_eq_true, Bool.and_eq_true, Bool.and_eq_true] at ha
    refine ⟨⟨_, raw, hr, ha.2.2.1, ha.2.2.2, ?_⟩, of_decide_eq_true hs⟩
    unfold PyKm442.answers PyKm442.calls
    rw [hr]
    show PyFlat.told (PyFlat.played _ _ (raw.map PyKm442.whole)) = _
    rw [calls_whole hr]
    rfl
theorem Rem.nil {s : Option Desk} {out : List Int} (h : Rem s [] out) : out = [] := by
  obtain ⟨f, cs, h1, _, _, h4⟩ := h
  have : cs = [] := by
    cases f <;> exact (Option.some.inj h1).symm
  subst this
  exact h4
theorem Rem.cons {s : Option Desk} {p : Int} {t out : List Int} (h : Rem s (p :: t) out) : ∃ (k : Nat) (xs r : List Int) (x : Call) (s' : Option Desk) (ans out' : List Int),
    p = (k : Int) ∧ t = xs ++ r ∧ IsCall k xs x ∧ Made s x s' ans ∧ out = ((ans.length : Nat) : Int) :: (ans ++ out') ∧ Rem s' r out' := by
  obtain ⟨f, cs, h1, h2, h3, h4⟩ := h
  cases f with
  | zero => cases h1
  | succ f =>
    unfold PyFlat.calls PyFlat.call at h1
    dsimp only at h1
    cases e : PyKm442.shape p with
    | none =>
      rw [e] at h1
      cases h1
    | some nk =>
      obtain ⟨n, k⟩ := nk
      obtain ⟨rfl, m, hm, hp, hn⟩ := shape_at e
      rw [e] at h1
      dsimp only at h1
      by_cases hl : t.length < n
      · rw [if_pos hl] at h1
        cases h1
      · rw [if_neg hl] at h1
        unfold PyFlat.rows at h1
        dsimp only at h1
        cases e2 : PyFlat.calls PyKm442.shape f (t.drop n) with
        | none =>
          rw [e2] at h1
          cases h1
        | some cs' =>
          rw [e2] at h1
          have := Option.some.inj h1
          subst this
          rw [List.all_cons, Bool.and_eq_true] at h2
          have hxs : (t.take n).length = width m := by rw [List.length_take, ← hn]; omega
          have h21 := h2.1
          rw [hp] at h21
          obtain ⟨x, hc, hx⟩ := (call_at hm hxs).2 h21
          rw [← hp] at hx
          unfold Km442Neutral.may at h3
          rw [Bool.and_eq_true] at h3
          refine ⟨m, t.take n, t.drop n, x, (Km442Neutral.step s [p :: t.take n]).1, (Km442Neutral.step s [p :: t.take n]).2, PyFlat.told (PyFlat.played Km442Neutral.step (Km442Neutral.step s [p :: t.take n]).1 cs'), hp, ?_, hc, ?_, ?_, ⟨f, cs', e2, h2.2, h3.2, rfl⟩⟩
          · rw [List.take_append_drop]
          · unfold Km442Neutral.step at h3 ⊢
            rw [hx] at h3 ⊢
            cases s with
            | some d => exact Made.call d x
            | none =>
              cases x with
              | start a b c d e f =>
                by_cases ho : okStart a b c d e f = false
                · have e5 : act (fresh 1 1 1 1 1 1) (.start a b c d e f) = (fresh 1 1 1 1 1 1, only (-22)) := by
                    show (if okStart a b c d e f = false then _ else _) = _
                    rw [if_pos ho]
                  have := Made.no a b c d e f ho
                  show Made none _ (if (Km442Neutral.told (act (fresh 1 1 1 1 1 1) (.start a b c d e f)).2).headD 0 < 0 then none else some (act (fresh 1 1 1 1 1 1) (.start a b c d e f)).1) (Km442Neutral.told (act (fresh 1 1 1 1 1 1) (.start a b c d e f)).2)
                  rw [e5]
                  exact this
                · have e5 : act (fresh 1 1 1 1 1 1) (.start a b c d e f) = (⟨opened a b c d e f, [], []⟩, only 0) := by
                    show (if okStart a b c d e f = false then _ else _) = _
                    rw [if_neg ho]
                  have := Made.first a b c d e f (by cases h : okStart a b c d e f; exact absurd h ho; rfl)
                  show Made none _ (if (Km442Neutral.told (act (fresh 1 1 1 1 1 1) (.start a b c d e f)).2).headD 0 < 0 then none else some (act (fresh 1 1 1 1 1 1) (.start a b c d e f)).1) (Km442Neutral.told (act (fresh 1 1 1 1 1 1) (.start a b c d e f)).2)
                  rw [e5]
                  exact this
              | _ => exact absurd h3.1 (by intro q; cases q)
          · rw [h4]
            show PyFlat.told ((Km442Neutral.step s [p :: t.take n]).2 :: PyFlat.played Km442Neutral.step (Km442Neutral.step s [p :: t.take n]).1 cs') = _
            unfold PyFlat.told
            rw [List.flatMap_cons]
            rfl
end Sh
end
section
set_option Elab.async false
set_option linter.all false
set_option maxRecDepth 100000
set_option maxHeartbeats 3900000
namespace Sp
open PySem PySem.Spec PyProof.Rows L2
def top (i : Nat) : Stmt := PySem.Challenge.pw_shiptanks_s01_answers.main.body.getD i (.Pass ⟨0, 0, 0, 0⟩)
abbrev s_Sizes_init : Stmt := inClass (top 34) 0
abbrev s_State_init : Stmt := inClass (top 35) 0
abbrev s_copy_of : Stmt := top 36
abbrev s_switches : Stmt := top 37
abbrev s_what_is_set : Stmt := top 38
abbrev s_wanted : Stmt := top 39
abbrev s_Ship_init : Stmt := inClass (top 40) 0
abbrev s_Ship_keep : Stmt := inClass (top 40) 1
abbrev s_Ship_take_back : Stmt := inClass (top 40) 2
abbrev s_Ship_do_again : Stmt := inClass (top 40) 3
abbrev s_Leg_init : Stmt := inClass (top 52) 0
abbrev s_way_end : Stmt := top 53
abbrev s_leg_in : Stmt := top 54
abbrev s_in_port : Stmt := top 55
abbrev s_may_make : Stmt := top 56
abbrev s_may_let_grey : Stmt := top 57
abbrev s_may_let_black : Stmt := top 58
abbrev s_grey_let_go : Stmt := top 60
abbrev s_black_let_go : Stmt := top 61
abbrev s_water_made : Stmt := top 62
abbrev s_grey_part : Stmt := top 63
abbrev s_water_used : Stmt := top 64
abbrev s_let_go : Stmt := top 65
abbrev s_make_water : Stmt := top 66
abbrev s_use_water : Stmt := top 67
abbrev s_pass_hour : Stmt := top 68
abbrev s_pass_hours : Stmt := top 69
abbrev s_may_now : Stmt := top 71
abbrev s_room : Stmt := top 72
abbrev s_wants : Stmt := top 73
abbrev s_where : Stmt := top 74
abbrev s_look : Stmt := top 75
abbrev s_end : Stmt := top 76
abbrev s_tanks : Stmt := top 77
abbrev s_sums : Stmt := top 78
abbrev s_ask : Stmt := top 79
abbrev s_add_leg : Stmt := top 85
abbrev s_set_persons : Stmt := top 86
abbrev s_set_switches : Stmt := top 87
abbrev s_bunker : Stmt := top 88
abbrev s_give_ashore : Stmt := top 89
abbrev s_let_hours_go_by : Stmt := top 90
abbrev s_is_change : Stmt := top 91
abbrev s_change_state : Stmt := top 92
abbrev s_make_change : Stmt := top 93
abbrev s_back : Stmt := top 95
abbrev s_again : Stmt := top 96
abbrev s_tell_state : Stmt := top 97
abbrev s_is_history : Stmt := top 98
abbrev s_do_history : Stmt := top 99
abbrev s_lasts : Stmt := top 102
abbrev s_first_hour : Stmt := top 103
abbrev s_next_go : Stmt := top 104
abbrev s_ahead : Stmt := top 105
abbrev s_has_hundredths : Stmt := top 106
abbrev s_full : Stmt := top 107
abbrev s_flows : Stmt := top 108
abbrev s_is_outlook : Stmt := top 109
abbrev s_look_ahead : Stmt := top 110
abbrev s_may_start : Stmt := top 113
abbrev s_started : Stmt := top 114
abbrev s_answer_of : Stmt := top 115
abbrev s_answers : Stmt := top 116
theorem sc_Sizes_init : FnScope ["self", "fresh", "makes", "grey", "grey_go", "black", "black_go"] ["self", "fresh", "makes", "grey", "grey_go", "black", "black_go"] (defScope s_Sizes_init) := ⟨rfl, rfl, rfl, by decide +kernel, rfl, by decide +kernel, by decide +kernel⟩
theorem sc_State_init : FnScope ["self", "sizes"] ["self", "sizes"] (defScope s_State_init) := ⟨rfl, rfl, rfl, by decide +kernel, rfl, by decide +kernel, by decide +kernel⟩
theorem sc_copy_of : FnScope ["state", "twin"] ["state"] (defScope s_copy_of) := ⟨rfl, rfl, rfl, by decide +kernel, rfl, by decide +kernel, by decide +kernel⟩
theorem sc_switches : FnScope ["making", "grey", "black"] ["making", "grey", "black"] (defScope s_switches) := ⟨rfl, rfl, rfl, by decide +kernel, rfl, by decide +kernel, by decide +kernel⟩
theorem sc_what_is_set : FnScope ["state"] ["state"] (defScope s_what_is_set) := ⟨rfl, rfl, rfl, by decide +kernel, rfl, by decide +kernel, by decide +kernel⟩
theorem sc_wanted : FnScope ["state"] ["state"] (defScope s_wanted) := ⟨rfl, rfl, rfl, by decide +kernel, rfl, by decide +kernel, by decide +kernel⟩
theorem sc_Ship_init : FnScope ["self", "sizes"] ["self", "sizes"] (defScope s_Ship_init) := ⟨rfl, rfl, rfl, by decide +kernel, rfl, by decide +kernel, by decide +kernel⟩
theorem sc_Ship_keep : FnScope ["self", "changed"] ["self", "changed"] (defScope s_Ship_keep) := ⟨rfl, rfl, rfl, by decide +kernel, rfl, by decide +kernel, by decide +kernel⟩
theorem sc_Ship_take_back : FnScope ["self"] ["self"] (defScope s_Ship_take_back) := ⟨rfl, rfl, rfl, by decide +kernel, rfl, by decide +kernel, by decide +kernel⟩
theorem sc_Ship_do_again : FnScope ["self"] ["self"] (defScope s_Ship_do_again) := ⟨rfl, rfl, rfl, by decide +kernel, rfl, by decide +kernel, by decide +kernel⟩
theorem sc_Leg_init : FnScope ["self", "end", "miles", "knots"] ["self", "end", "miles", "knots"] (defScope s_Leg_init) := ⟨rfl, rfl, rfl, by decide +kernel, rfl, by decide +kernel, by decide +kernel⟩
theorem sc_way_end : FnScope ["legs"] ["legs"] (defScope s_way_end) := ⟨rfl, rfl, rfl, by decide +kernel, rfl, by decide +kernel, by decide +kernel⟩
theorem sc_leg_in : FnScope ["legs", "hour", "leg"] ["legs", "hour"] (defScope s_leg_in) := ⟨rfl, rfl, rfl, by decide +kernel, rfl, by decide +kernel, by decide +kernel⟩
theorem sc_in_port : FnScope ["leg"] ["leg"] (defScope s_in_port) := ⟨rfl, rfl, rfl, by decide +kernel, rfl, by decide +kernel, by decide +kernel⟩
theorem sc_may_make : FnScope ["leg"] ["leg"] (defScope s_may_make) := ⟨rfl, rfl, rfl, by decide +kernel, rfl, by decide +kernel, by decide +kernel⟩
theorem sc_may_let_grey : FnScope ["leg"] ["leg"] (defScope s_may_let_grey) := ⟨rfl, rfl, rfl, by decide +kernel, rfl, by decide +kernel, by decide +kernel⟩
theorem sc_may_let_black : FnScope ["leg"] ["leg"] (defScope s_may_let_black) := ⟨rfl, rfl, rfl, by decide +kernel, rfl, by decide +kernel, by decide +kernel⟩
theorem sc_grey_let_go : FnScope ["state", "leg"] ["state", "leg"] (defScope s_grey_let_go) := ⟨rfl, rfl, rfl, by decide +kernel, rfl, by decide +kernel, by decide +kernel⟩
theorem sc_black_let_go : FnScope ["state", "leg"] ["state", "leg"] (defScope s_black_let_go) := ⟨rfl, rfl, rfl, by decide +kernel, rfl, by decide +kernel, by decide +kernel⟩
theorem sc_water_made : FnScope ["state", "leg"] ["state", "leg"] (defScope s_water_made) := ⟨rfl, rfl, rfl, by decide +kernel, rfl, by decide +kernel, by decide +kernel⟩
theorem sc_grey_part : FnScope ["used"] ["used"] (defScope s_grey_part) := ⟨rfl, rfl, rfl, by decide +kernel, rfl, by decide +kernel, by decide +kernel⟩
theorem sc_water_used : FnScope ["state", "grey_room", "black_room", "most_for_grey", "most_for_black"] ["state"] (defScope s_water_used) := ⟨rfl, rfl, rfl, by decide +kernel, rfl, by decide +kernel, by decide +kernel⟩
theorem sc_let_go : FnScope ["state", "leg", "grey", "black"] ["state", "leg"] (defScope s_let_go) := ⟨rfl, rfl, rfl, by decide +kernel, rfl, by decide +kernel, by decide +kernel⟩
theorem sc_make_water : FnScope ["state", "leg", "made"] ["state", "leg"] (defScope s_make_water) := ⟨rfl, rfl, rfl, by decide +kernel, rfl, by decide +kernel, by decide +kernel⟩
theorem sc_use_water : FnScope ["state", "used", "grey"] ["state"] (defScope s_use_water) := ⟨rfl, rfl, rfl, by decide +kernel, rfl, by decide +kernel, by decide +kernel⟩
theorem sc_pass_hour : FnScope ["state", "leg"] ["state"] (defScope s_pass_hour) := ⟨rfl, rfl, rfl, by decide +kernel, rfl, by decide +kernel, by decide +kernel⟩
theorem sc_pass_hours : FnScope ["state", "n", "k"] ["state", "n"] (defScope s_pass_hours) := ⟨rfl, rfl, rfl, by decide +kernel, rfl, by decide +kernel, by decide +kernel⟩
theorem sc_may_now : FnScope ["state", "leg", "allowed"] ["state"] (defScope s_may_now) := ⟨rfl, rfl, rfl, by decide +kernel, rfl, by decide +kernel, by decide +kernel⟩
theorem sc_room : FnScope ["state", "sizes"] ["state"] (defScope s_room) := ⟨rfl, rfl, rfl, by decide +kernel, rfl, by decide +kernel, by decide +kernel⟩
theorem sc_wants : FnScope ["state", "want", "grey"] ["state"] (defScope s_wants) := ⟨rfl, rfl, rfl, by decide +kernel, rfl, by decide +kernel, by decide +kernel⟩
theorem sc_where : FnScope ["state", "t", "leg"] ["state", "t"] (defScope s_where) := ⟨rfl, rfl, rfl, by decide +kernel, rfl, by decide +kernel, by decide +kernel⟩
theorem sc_look : FnScope ["state", "k", "leg", "begin"] ["state", "k"] (defScope s_look) := ⟨rfl, rfl, rfl, by decide +kernel, rfl, by decide +kernel, by decide +kernel⟩
theorem sc_end : FnScope ["state", "last"] ["state"] (defScope s_end) := ⟨rfl, rfl, rfl, by decide +kernel, rfl, by decide +kernel, by decide +kernel⟩
theorem sc_tanks : FnScope ["state", "sizes"] ["state"] (defScope s_tanks) := ⟨rfl, rfl, rfl, by decide +kernel, rfl, by decide +kernel, by decide +kernel⟩
theorem sc_sums : FnScope ["state"] ["state"] (defScope s_sums) := ⟨rfl, rfl, rfl, by decide +kernel, rfl, by decide +kernel, by decide +kernel⟩
theorem sc_ask : FnScope ["state", "number", "numbers"] ["state", "number", "numbers"] (defScope s_ask) := ⟨rfl, rfl, rfl, by decide +kernel, rfl, by decide +kernel, by decide +kernel⟩
theorem sc_add_leg : FnScope ["state", "hours", "miles", "knots", "end"] ["state", "hours", "miles", "knots"] (defScope s_add_leg) := ⟨rfl, rfl, rfl, by decide +kernel, rfl, by decide +kernel, by decide +kernel⟩
theorem sc_set_persons : FnScope ["state", "n", "uses", "before"] ["state", "n", "uses"] (defScope s_set_persons) := ⟨rfl, rfl, rfl, by decide +kernel, rfl, by decide +kernel, by decide +kernel⟩
theorem sc_set_switches : FnScope ["state", "making", "grey", "black", "before"] ["state", "making", "grey", "black"] (defScope s_set_switches) := ⟨rfl, rfl, rfl, by decide +kernel, rfl, by decide +kernel, by decide +kernel⟩
theorem sc_bunker : FnScope ["state", "n"] ["state", "n"] (defScope s_bunker) := ⟨rfl, rfl, rfl, by decide +kernel, rfl, by decide +kernel, by decide +kernel⟩
theorem sc_give_ashore : FnScope ["state", "grey", "black"] ["state", "grey", "black"] (defScope s_give_ashore) := ⟨rfl, rfl, rfl, by decide +kernel, rfl, by decide +kernel, by decide +kernel⟩
theorem sc_let_hours_go_by : FnScope ["state", "n", "lacked_before"] ["state", "n"] (defScope s_let_hours_go_by) := ⟨rfl, rfl, rfl, by decide +kernel, rfl, by decide +kernel, by decide +kernel⟩
theorem sc_is_change : FnScope ["number"] ["number"] (defScope s_is_change) := ⟨rfl, rfl, rfl, by decide +kernel, rfl, by decide +kernel, by decide +kernel⟩
theorem sc_change_state : FnScope ["state", "number", "numbers"] ["state", "number", "numbers"] (defScope s_change_state) := ⟨rfl, rfl, rfl, by decide +kernel, rfl, by decide +kernel, by decide +kernel⟩
theorem sc_make_change : FnScope ["ship", "number", "numbers", "changed", "answer"] ["ship", "number", "numbers"] (defScope s_make_change) := ⟨rfl, rfl, rfl, by decide +kernel, rfl, by decide +kernel, by decide +kernel⟩
theorem sc_back : FnScope ["ship"] ["ship"] (defScope s_back) := ⟨rfl, rfl, rfl, by decide +kernel, rfl, by decide +kernel, by decide +kernel⟩
theorem sc_again : FnScope ["ship"] ["ship"] (defScope s_again) := ⟨rfl, rfl, rfl, by decide +kernel, rfl, by decide +kernel, by decide +kernel⟩
theorem sc_tell_state : FnScope ["ship", "now", "changes"] ["ship"] (defScope s_tell_state) := ⟨rfl, rfl, rfl, by decide +kernel, rfl, by decide +kernel, by decide +kernel⟩
theorem sc_is_history : FnScope ["number"] ["number"] (defScope s_is_history) := ⟨rfl, rfl, rfl, by decide +kernel, rfl, by decide +kernel, by decide +kernel⟩
theorem sc_do_history : FnScope ["ship", "number"] ["ship", "number"] (defScope s_do_history) := ⟨rfl, rfl, rfl, by decide +kernel, rfl, by decide +kernel, by decide +kernel⟩
theorem sc_lasts : FnScope ["state", "later", "k"] ["state"] (defScope s_lasts) := ⟨rfl, rfl, rfl, by decide +kernel, rfl, by decide +kernel, by decide +kernel⟩
theorem sc_first_hour : FnScope ["state", "may", "k"] ["state", "may"] (defScope s_first_hour) := ⟨rfl, rfl, rfl, by decide +kernel, rfl, by decide +kernel, by decide +kernel⟩
theorem sc_next_go : FnScope ["state", "grey", "black"] ["state"] (defScope s_next_go) := ⟨rfl, rfl, rfl, by decide +kernel, rfl, by decide +kernel, by decide +kernel⟩
theorem sc_ahead : FnScope ["state", "n", "later"] ["state", "n"] (defScope s_ahead) := ⟨rfl, rfl, rfl, by decide +kernel, rfl, by decide +kernel, by decide +kernel⟩
theorem sc_has_hundredths : FnScope ["state", "h", "sizes"] ["state", "h"] (defScope s_has_hundredths) := ⟨rfl, rfl, rfl, by decide +kernel, rfl, by decide +kernel, by decide +kernel⟩
theorem sc_full : FnScope ["state", "h", "later", "k"] ["state", "h"] (defScope s_full) := ⟨rfl, rfl, rfl, by decide +kernel, rfl, by decide +kernel, by decide +kernel⟩
theorem sc_flows : FnScope ["state", "later", "made", "grey", "black"] ["state"] (defScope s_flows) := ⟨rfl, rfl, rfl, by decide +kernel, rfl, by decide +kernel, by decide +kernel⟩
theorem sc_is_outlook : FnScope ["number"] ["number"] (defScope s_is_outlook) := ⟨rfl, rfl, rfl, by decide +kernel, rfl, by decide +kernel, by decide +kernel⟩
theorem sc_look_ahead : FnScope ["state", "number", "numbers"] ["state", "number", "numbers"] (defScope s_look_ahead) := ⟨rfl, rfl, rfl, by decide +kernel, rfl, by decide +kernel, by decide +kernel⟩
theorem sc_may_start : FnScope ["numbers"] ["numbers"] (defScope s_may_start) := ⟨rfl, rfl, rfl, by decide +kernel, rfl, by decide +kernel, by decide +kernel⟩
theorem sc_started : FnScope ["numbers"] ["numbers"] (defScope s_started) := ⟨rfl, rfl, rfl, by decide +kernel, rfl, by decide +kernel, by decide +kernel⟩
theorem sc_answer_of : FnScope ["ship", "number", "numbers"] ["ship", "number", "numbers"] (defScope s_answer_of) := ⟨rfl, rfl, rfl, by decide +kernel, rfl, by decide +kernel, by decide +kernel⟩
theorem sc_answers : FnScope ["calls", "given", "ship", "at", "number", "behind", "numbers", "answer"] ["calls"] (defScope s_answers) := ⟨rfl, rfl, rfl, by decide +kernel, rfl, by decide +kernel, by decide +kernel⟩
set_option genInjectivity false in
set_option genSizeOf false in
/-- where the top has put what it writes -/
structure Ad where
  c_Sizes : Addr
  c_State : Addr
  c_Ship : Addr
  c_Leg : Addr
  f_Sizes_init : Addr
  d_Sizes_init : FuncData
  f_State_init : Addr
  d_State_init : FuncData
  f_copy_of : Addr
  d_copy_of : FuncData
  f_switches : Addr
  d_switches : FuncData
  f_what_is_set : Addr
  d_what_is_set : FuncData
  f_wanted : Addr
  d_wanted : FuncData
  f_Ship_init : Addr
  d_Ship_init : FuncData
  f_Ship_keep : Addr
  d_Ship_keep : FuncData
  f_Ship_take_back : Addr
  d_Ship_take_back : FuncData
  f_Ship_do_again : Addr
  d_Ship_do_again : FuncData
  f_Leg_init : Addr
  d_Leg_init : FuncData
  f_way_end : Addr
  d_way_end : FuncData
  f_leg_in : Addr
  d_leg_in : FuncData
  f_in_port : Addr
  d_in_port : FuncData
  f_may_make : Addr
  d_may_make : FuncData
  f_may_let_grey : Addr
  d_may_let_grey : FuncData
  f_may_let_black : Addr
  d_may_let_black : FuncData
  f_grey_let_go : Addr
  d_grey_let_go : FuncData
  f_black_let_go : Addr
  d_black_let_go : FuncData
  f_water_made : Addr
  d_water_made : FuncData
  f_grey_part : Addr
  d_grey_part : FuncData
  f_water_used : Addr
  d_water_used : FuncData
  f_let_go : Addr
  d_let_go : FuncData
  f_make_water : Addr
  d_make_water : FuncData
  f_use_water : Addr
  d_use_water : FuncData
  f_pass_hour : Addr
  d_pass_hour : FuncData
  f_pass_hours : Addr
  d_pass_hours : FuncData
  f_may_now : Addr
  d_may_now : FuncData
  f_room : Addr
  d_room : FuncData
  f_wants : Addr
  d_wants : FuncData
  f_where : Addr
  d_where : FuncData
  f_look : Addr
  d_look : FuncData
  f_end : Addr
  d_end : FuncData
  f_tanks : Addr
  d_tanks : FuncData
  f_sums : Addr
  d_sums : FuncData
  f_ask : Addr
  d_ask : FuncData
  f_add_leg : Addr
  d_add_leg : FuncData
  f_set_persons : Addr
  d_set_persons : FuncData
  f_set_switches : Addr
  d_set_switches : FuncData
  f_bunker : Addr
  d_bunker : FuncData
  f_give_ashore : Addr
  d_give_ashore : FuncData
  f_let_hours_go_by : Addr
  d_let_hours_go_by : FuncData
  f_is_change : Addr
  d_is_change : FuncData
  f_change_state : Addr
  d_change_state : FuncData
  f_make_change : Addr
  d_make_change : FuncData
  f_back : Addr
  d_back : FuncData
  f_again : Addr
  d_again : FuncData
  f_tell_state : Addr
  d_tell_state : FuncData
  f_is_history : Addr
  d_is_history : FuncData
  f_do_history : Addr
  d_do_history : FuncData
  f_lasts : Addr
  d_lasts : FuncData
  f_first_hour : Addr
  d_first_hour : FuncData
  f_next_go : Addr
  d_next_go : FuncData
  f_ahead : Addr
  d_ahead : FuncData
  f_has_hundredths : Addr
  d_has_hundredths : FuncData
  f_full : Addr
  d_full : FuncData
  f_flows : Addr
  d_flows : FuncData
  f_is_outlook : Addr
  d_is_outlook : FuncData
  f_look_ahead : Addr
  d_look_ahead : FuncData
  f_may_start : Addr
  d_may_start : FuncData
  f_started : Addr
  d_started : FuncData
  f_answer_of : Addr
  d_answer_of : FuncData
  f_answers : Addr
  d_answers : FuncData
  t_START : Tok
  t_LEG : Tok
  t_PERSONS : Tok
  t_SET : Tok
  t_BUNKER : Tok
  t_ASHORE : Tok
  t_HOURS : Tok
  t_LASTS : Tok
  t_NEXT_GO : Tok
  t_MAY : Tok
  t_AHEAD : Tok
  t_ROOM : Tok
  t_WANTS : Tok
  t_WHERE : Tok
  t_LOOK : Tok
  t_END : Tok
  t_FULL : Tok
  t_TANKS : Tok
  t_FLOWS : Tok
  t_BACK : Tok
  t_AGAIN : Tok
  t_STATE : Tok
  t_NONE_THERE : Tok
  t_TOO_LITTLE : Tok
  t_NOT_HERE : Tok
  t_SO_ALREADY : Tok
  t_WRONG_NUMBER : Tok
  t_NO_MORE : Tok
  t_NOT_SOON : Tok
  t_NO_ROOM : Tok
  t_TOO_LATE : Tok
  t_MOST_KEPT : Tok
  t_MOST_LEGS : Tok
  t_MOST_LEG_HOURS : Tok
  t_MOST_MILES : Tok
  t_MOST_KNOTS : Tok
  t_LAST_HOUR : Tok
  t_MAKING_MILES : Tok
  t_GREY_MILES : Tok
  t_GREY_KNOTS : Tok
  t_BLACK_MILES : Tok
  t_BLACK_KNOTS : Tok
  t_MOST_PERSONS : Tok
  t_MOST_USES : Tok
  t_MOST_HOURS_AT_ONCE : Tok
  t_MOST_TAKEN_IN : Tok
  t_MOST_HOURS_AHEAD : Tok
  t_MOST_LITRES : Tok
  p_WIDTHS : Addr
structure Tx (K : PySem.W.Frag) (mg : Str → Option Value) (a : Ad) : Prop where
  no_len : mg "len" = none
  no_max : mg "max" = none
  no_min : mg "min" = none
  no_range : mg "range" = none
  k_START : mg "START" = some (.int 0 a.t_START)
  k_LEG : mg "LEG" = some (.int 1 a.t_LEG)
  k_PERSONS : mg "PERSONS" = some (.int 2 a.t_PERSONS)
  k_SET : mg "SET" = some (.int 3 a.t_SET)
  k_BUNKER : mg "BUNKER" = some (.int 4 a.t_BUNKER)
  k_ASHORE : mg "ASHORE" = some (.int 5 a.t_ASHORE)
  k_HOURS : mg "HOURS" = some (.int 6 a.t_HOURS)
  k_LASTS : mg "LASTS" = some (.int 7 a.t_LASTS)
  k_NEXT_GO : mg "NEXT_GO" = some (.int 8 a.t_NEXT_GO)
  k_MAY : mg "MAY" = some (.int 9 a.t_MAY)
  k_AHEAD : mg "AHEAD" = some (.int 10 a.t_AHEAD)
  k_ROOM : mg "ROOM" = some (.int 11 a.t_ROOM)
  k_WANTS : mg "WANTS" = some (.int 12 a.t_WANTS)
  k_WHERE : mg "WHERE" = some (.int 13 a.t_WHERE)
  k_LOOK : mg "LOOK" = some (.int 14 a.t_LOOK)
  k_END : mg "END" = some (.int 15 a.t_END)
  k_FULL : mg "FULL" = some (.int 16 a.t_FULL)
  k_TANKS : mg "TANKS" = some (.int 17 a.t_TANKS)
  k_FLOWS : mg "FLOWS" = some (.int 18 a.t_FLOWS)
  k_BACK : mg "BACK" = some (.int 20 a.t_BACK)
  k_AGAIN : mg "AGAIN" = some (.int 21 a.t_AGAIN)
  k_STATE : mg "STATE" = some (.int 22 a.t_STATE)
  k_NONE_THERE : mg "NONE_THERE" = some (.int (-2) a.t_NONE_THERE)
  k_TOO_LITTLE : mg "TOO_LITTLE" = some (.int (-12) a.t_TOO_LITTLE)
  k_NOT_HERE : mg "NOT_HERE" = some (.int (-16) a.t_NOT_HERE)
  k_SO_ALREADY : mg "SO_ALREADY" = some (.int (-17) a.t_SO_ALREADY)
  k_WRONG_NUMBER : mg "WRONG_NUMBER" = some (.int (-22) a.t_WRONG_NUMBER)
  k_NO_MORE : mg "NO_MORE" = some (.int (-28) a.t_NO_MORE)
  k_NOT_SOON : mg "NOT_SOON" = some (.int (-33) a.t_NOT_SOON)
  k_NO_ROOM : mg "NO_ROOM" = some (.int (-62) a.t_NO_ROOM)
  k_TOO_LATE : mg "TOO_LATE" = some (.int (-75) a.t_TOO_LATE)
  k_MOST_KEPT : mg "MOST_KEPT" = some (.int 30 a.t_MOST_KEPT)
  k_MOST_LEGS : mg "MOST_LEGS" = some (.int 10 a.t_MOST_LEGS)
  k_MOST_LEG_HOURS : mg "MOST_LEG_HOURS" = some (.int 500 a.t_MOST_LEG_HOURS)
  k_MOST_MILES : mg "MOST_MILES" = some (.int 1000 a.t_MOST_MILES)
  k_MOST_KNOTS : mg "MOST_KNOTS" = some (.int 40 a.t_MOST_KNOTS)
  k_LAST_HOUR : mg "LAST_HOUR" = some (.int 10000 a.t_LAST_HOUR)
  k_MAKING_MILES : mg "MAKING_MILES" = some (.int 12 a.t_MAKING_MILES)
  k_GREY_MILES : mg "GREY_MILES" = some (.int 4 a.t_GREY_MILES)
  k_GREY_KNOTS : mg "GREY_KNOTS" = some (.int 6 a.t_GREY_KNOTS)
  k_BLACK_MILES : mg "BLACK_MILES" = some (.int 12 a.t_BLACK_MILES)
  k_BLACK_KNOTS : mg "BLACK_KNOTS" = some (.int 4 a.t_BLACK_KNOTS)
  k_MOST_PERSONS : mg "MOST_PERSONS" = some (.int 5000 a.t_MOST_PERSONS)
  k_MOST_USES : mg "MOST_USES" = some (.int 80 a.t_MOST_USES)
  k_MOST_HOURS_AT_ONCE : mg "MOST_HOURS_AT_ONCE" = some (.int 500 a.t_MOST_HOURS_AT_ONCE)
  k_MOST_TAKEN_IN : mg "MOST_TAKEN_IN" = some (.int 1000000000 a.t_MOST_TAKEN_IN)
  k_MOST_HOURS_AHEAD : mg "MOST_HOURS_AHEAD" = some (.int 500 a.t_MOST_HOURS_AHEAD)
  k_MOST_LITRES : mg "MOST_LITRES" = some (.int 10000000 a.t_MOST_LITRES)
  t_WIDTHS : mg "WIDTHS" = some (.ref a.p_WIDTHS)
  q_WIDTHS : ∀ H : Hp, SqT K H a.p_WIDTHS (([6, 3, 2, 3, 1, 2, 1, 0, 0, 0, 1, 0, 0, 1, 1, 0, 1, 0, 0, 0, 0, 0, 0] : List Int).map V.int)
  c_Sizes : Cls K a.c_Sizes
  m_Sizes : mg "Sizes" = some (.ref a.c_Sizes)
  M_Sizes : Mk K a.c_Sizes a.f_Sizes_init
  n_Sizes_fresh : NoAttr K a.c_Sizes "fresh"
  n_Sizes_makes : NoAttr K a.c_Sizes "makes"
  n_Sizes_grey : NoAttr K a.c_Sizes "grey"
  n_Sizes_grey_go : NoAttr K a.c_Sizes "grey_go"
  n_Sizes_black : NoAttr K a.c_Sizes "black"
  n_Sizes_black_go : NoAttr K a.c_Sizes "black_go"
  c_State : Cls K a.c_State
  m_State : mg "State" = some (.ref a.c_State)
  M_State : Mk K a.c_State a.f_State_init
  n_State_sizes : NoAttr K a.c_State "sizes"
  n_State_legs : NoAttr K a.c_State "legs"
  n_State_hour : NoAttr K a.c_State "hour"
  n_State_persons : NoAttr K a.c_State "persons"
  n_State_uses : NoAttr K a.c_State "uses"
  n_State_making : NoAttr K a.c_State "making"
  n_State_letting_grey : NoAttr K a.c_State "letting_grey"
  n_State_letting_black : NoAttr K a.c_State "letting_black"
  n_State_fresh : NoAttr K a.c_State "fresh"
  n_State_grey : NoAttr K a.c_State "grey"
  n_State_black : NoAttr K a.c_State "black"
  n_State_taken_in : NoAttr K a.c_State "taken_in"
  n_State_used : NoAttr K a.c_State "used"
  n_State_grey_gone : NoAttr K a.c_State "grey_gone"
  n_State_black_gone : NoAttr K a.c_State "black_gone"
  n_State_ashore : NoAttr K a.c_State "ashore"
  n_State_lacked : NoAttr K a.c_State "lacked"
  c_Ship : Cls K a.c_Ship
  m_Ship : mg "Ship" = some (.ref a.c_Ship)
  M_Ship : Mk K a.c_Ship a.f_Ship_init
  n_Ship_now : NoAttr K a.c_Ship "now"
  n_Ship_earlier : NoAttr K a.c_Ship "earlier"
  n_Ship_undone : NoAttr K a.c_Ship "undone"
  c_Leg : Cls K a.c_Leg
  m_Leg : mg "Leg" = some (.ref a.c_Leg)
  M_Leg : Mk K a.c_Leg a.f_Leg_init
  n_Leg_end : NoAttr K a.c_Leg "end"
  n_Leg_miles : NoAttr K a.c_Leg "miles"
  n_Leg_knots : NoAttr K a.c_Leg "knots"
  F_Sizes_init : Fun K "__init__" "Sizes.__init__" s_Sizes_init a.f_Sizes_init a.d_Sizes_init
  b_Sizes_init : Binds K a.d_Sizes_init ["self", "fresh", "makes", "grey", "grey_go", "black", "black_go"] []
  F_State_init : Fun K "__init__" "State.__init__" s_State_init a.f_State_init a.d_State_init
  b_State_init : Binds K a.d_State_init ["self", "sizes"] []
  F_copy_of : Fun K "copy_of" "copy_of" s_copy_of a.f_copy_of a.d_copy_of
  b_copy_of : Binds K a.d_copy_of ["state"] []
  m_copy_of : mg "copy_of" = some (.ref a.f_copy_of)
  F_switches : Fun K "switches" "switches" s_switches a.f_switches a.d_switches
  b_switches : Binds K a.d_switches ["making", "grey", "black"] []
  m_switches : mg "switches" = some (.ref a.f_switches)
  F_what_is_set : Fun K "what_is_set" "what_is_set" s_what_is_set a.f_what_is_set a.d_what_is_set
  b_what_is_set : Binds K a.d_what_is_set ["state"] []
  m_what_is_set : mg "what_is_set" = some (.ref a.f_what_is_set)
  F_wanted : Fun K "wanted" "wanted" s_wanted a.f_wanted a.d_wanted
  b_wanted : Binds K a.d_wanted ["state"] []
  m_wanted : mg "wanted" = some (.ref a.f_wanted)
  F_Ship_init : Fun K "__init__" "Ship.__init__" s_Ship_init a.f_Ship_init a.d_Ship_init
  b_Ship_init : Binds K a.d_Ship_init ["self", "sizes"] []
  F_Ship_keep : Fun K "keep" "Ship.keep" s_Ship_keep a.f_Ship_keep a.d_Ship_keep
  b_Ship_keep : Binds K a.d_Ship_keep ["self", "changed"] []
  me_Ship_keep : Meth K a.c_Ship "keep" a.f_Ship_keep
  F_Ship_take_back : Fun K "take_back" "Ship.take_back" s_Ship_take_back a.f_Ship_take_back a.d_Ship_take_back
  b_Ship_take_back : Binds K a.d_Ship_take_back ["self"] []
  me_Ship_take_back : Meth K a.c_Ship "take_back" a.f_Ship_take_back
  F_Ship_do_again : Fun K "do_again" "Ship.do_again" s_Ship_do_again a.f_Ship_do_again a.d_Ship_do_again
  b_Ship_do_again : Binds K a.d_Ship_do_again ["self"] []
  me_Ship_do_again : Meth K a.c_Ship "do_again" a.f_Ship_do_again
  F_Leg_init : Fun K "__init__" "Leg.__init__" s_Leg_init a.f_Leg_init a.d_Leg_init
  b_Leg_init : Binds K a.d_Leg_init ["self", "end", "miles", "knots"] []
  F_way_end : Fun K "way_end" "way_end" s_way_end a.f_way_end a.d_way_end
  b_way_end : Binds K a.d_way_end ["legs"] []
  m_way_end : mg "way_end" = some (.ref a.f_way_end)
  F_leg_in : Fun K "leg_in" "leg_in" s_leg_in a.f_leg_in a.d_leg_in
  b_leg_in : Binds K a.d_leg_in ["legs", "hour"] []
  m_leg_in : mg "leg_in" = some (.ref a.f_leg_in)
  F_in_port : Fun K "in_port" "in_port" s_in_port a.f_in_port a.d_in_port
  b_in_port : Binds K a.d_in_port ["leg"] []
  m_in_port : mg "in_port" = some (.ref a.f_in_port)
  F_may_make : Fun K "may_make" "may_make" s_may_make a.f_may_make a.d_may_make
  b_may_make : Binds K a.d_may_make ["leg"] []
  m_may_make : mg "may_make" = some (.ref a.f_may_make)
  F_may_let_grey : Fun K "may_let_grey" "may_let_grey" s_may_let_grey a.f_may_let_grey a.d_may_let_grey
  b_may_let_grey : Binds K a.d_may_let_grey ["leg"] []
  m_may_let_grey : mg "may_let_grey" = some (.ref a.f_may_let_grey)
  F_may_let_black : Fun K "may_let_black" "may_let_black" s_may_let_black a.f_may_let_black a.d_may_let_black
  b_may_let_black : Binds K a.d_may_let_black ["leg"] []
  m_may_let_black : mg "may_let_black" = some (.ref a.f_may_let_black)
  F_grey_let_go : Fun K "grey_let_go" "grey_let_go" s_grey_let_go a.f_grey_let_go a.d_grey_let_go
  b_grey_let_go : Binds K a.d_grey_let_go ["state", "leg"] []
  m_grey_let_go : mg "grey_let_go" = some (.ref a.f_grey_let_go)
  F_black_let_go : Fun K "black_let_go" "black_let_go" s_black_let_go a.f_black_let_go a.d_black_let_go
  b_black_let_go : Binds K a.d_black_let_go ["state", "leg"] []
  m_black_let_go : mg "black_let_go" = some (.ref a.f_black_let_go)
  F_water_made : Fun K "water_made" "water_made" s_water_made a.f_water_made a.d_water_made
  b_water_made : Binds K a.d_water_made ["state", "leg"] []
  m_water_made : mg "water_made" = some (.ref a.f_water_made)
  F_grey_part : Fun K "grey_part" "grey_part" s_grey_part a.f_grey_part a.d_grey_part
  b_grey_part : Binds K a.d_grey_part ["used"] []
  m_grey_part : mg "grey_part" = some (.ref a.f_grey_part)
  F_water_used : Fun K "water_used" "water_used" s_water_used a.f_water_used a.d_water_used
  b_water_used : Binds K a.d_water_used ["state"] []
  m_water_used : mg "water_used" = some (.ref a.f_water_used)
  F_let_go : Fun K "let_go" "let_go" s_let_go a.f_let_go a.d_let_go
  b_let_go : Binds K a.d_let_go ["state", "leg"] []
  m_let_go : mg "let_go" = some (.ref a.f_let_go)
  F_make_water : Fun K "make_water" "make_water" s_make_water a.f_make_water a.d_make_water
  b_make_water : Binds K a.d_make_water ["state", "leg"] []
  m_make_water : mg "make_water" = some (.ref a.f_make_water)
  F_use_water : Fun K "use_water" "use_water" s_use_water a.f_use_water a.d_use_water
  b_use_water : Binds K a.d_use_water ["state"] []
  m_use_water : mg "use_water" = some (.ref a.f_use_water)
  F_pass_hour : Fun K "pass_hour" "pass_hour" s_pass_hour a.f_pass_hour a.d_pass_hour
  b_pass_hour : Binds K a.d_pass_hour ["state"] []
  m_pass_hour : mg "pass_hour" = some (.ref a.f_pass_hour)
  F_pass_hours : Fun K "pass_hours" "pass_hours" s_pass_hours a.f_pass_hours a.d_pass_hours
  b_pass_hours : Binds K a.d_pass_hours ["state", "n"] []
  m_pass_hours : mg "pass_hours" = some (.ref a.f_pass_hours)
  F_may_now : Fun K "may_now" "may_now" s_may_now a.f_may_now a.d_may_now
  b_may_now : Binds K a.d_may_now ["state"] []
  m_may_now : mg "may_now" = some (.ref a.f_may_now)
  F_room : Fun K "room" "room" s_room a.f_room a.d_room
  b_room : Binds K a.d_room ["state"] []
  m_room : mg "room" = some (.ref a.f_room)
  F_wants : Fun K "wants" "wants" s_wants a.f_wants a.d_wants
  b_wants : Binds K a.d_wants ["state"] []
  m_wants : mg "wants" = some (.ref a.f_wants)
  F_where : Fun K "where" "where" s_where a.f_where a.d_where
  b_where : Binds K a.d_where ["state", "t"] []
  m_where : mg "where" = some (.ref a.f_where)
  F_look : Fun K "look" "look" s_look a.f_look a.d_look
  b_look : Binds K a.d_look ["state", "k"] []
  m_look : mg "look" = some (.ref a.f_look)
  F_end : Fun K "end" "end" s_end a.f_end a.d_end
  b_end : Binds K a.d_end ["state"] []
  m_end : mg "end" = some (.ref a.f_end)
  F_tanks : Fun K "tanks" "tanks" s_tanks a.f_tanks a.d_tanks
  b_tanks : Binds K a.d_tanks ["state"] []
  m_tanks : mg "tanks" = some (.ref a.f_tanks)
  F_sums : Fun K "sums" "sums" s_sums a.f_sums a.d_sums
  b_sums : Binds K a.d_sums ["state"] []
  m_sums : mg "sums" = some (.ref a.f_sums)
  F_ask : Fun K "ask" "ask" s_ask a.f_ask a.d_ask
  b_ask : Binds K a.d_ask ["state", "number", "numbers"] []
  m_ask : mg "ask" = some (.ref a.f_ask)
  F_add_leg : Fun K "add_leg" "add_leg" s_add_leg a.f_add_leg a.d_add_leg
  b_add_leg : Binds K a.d_add_leg ["state", "hours", "miles", "knots"] []
  m_add_leg : mg "add_leg" = some (.ref a.f_add_leg)
  F_set_persons : Fun K "set_persons" "set_persons" s_set_persons a.f_set_persons a.d_set_persons
  b_set_persons : Binds K a.d_set_persons ["state", "n", "uses"] []
  m_set_persons : mg "set_persons" = some (.ref a.f_set_persons)
  F_set_switches : Fun K "set_switches" "set_switches" s_set_switches a.f_set_switches a.d_set_switches
  b_set_switches : Binds K a.d_set_switches ["state", "making", "grey", "black"] []
  m_set_switches : mg "set_switches" = some (.ref a.f_set_switches)
  F_bunker : Fun K "bunker" "bunker" s_bunker a.f_bunker a.d_bunker
  b_bunker : Binds K a.d_bunker ["state", "n"] []
  m_bunker : mg "bunker" = some (.ref a.f_bunker)
  F_give_ashore : Fun K "give_ashore" "give_ashore" s_give_ashore a.f_give_ashore a.d_give_ashore
  b_give_ashore : Binds K a.d_give_ashore ["state", "grey", "black"] []
  m_give_ashore : mg "give_ashore" = some (.ref a.f_give_ashore)
  F_let_hours_go_by : Fun K "let_hours_go_by" "let_hours_go_by" s_let_hours_go_by a.f_let_hours_go_by a.d_let_hours_go_by
  b_let_hours_go_by : Binds K a.d_let_hours_go_by ["state", "n"] []
  m_let_hours_go_by : mg "let_hours_go_by" = some (.ref a.f_let_hours_go_by)
  F_is_change : Fun K "is_change" "is_change" s_is_change a.f_is_change a.d_is_change
  b_is_change : Binds K a.d_is_change ["number"] []
  m_is_change : mg "is_change" = some (.ref a.f_is_change)
  F_change_state : Fun K "change_state" "change_state" s_change_state a.f_change_state a.d_change_state
  b_change_state : Binds K a.d_change_state ["state", "number", "numbers"] []
  m_change_state : mg "change_state" = some (.ref a.f_change_state)
  F_make_change : Fun K "make_change" "make_change" s_make_change a.f_make_change a.d_make_change
  b_make_change : Binds K a.d_make_change ["ship", "number", "numbers"] []
  m_make_change : mg "make_change" = some (.ref a.f_make_change)
  F_back : Fun K "back" "back" s_back a.f_back a.d_back
  b_back : Binds K a.d_back ["ship"] []
  m_back : mg "back" = some (.ref a.f_back)
  F_again : Fun K "again" "again" s_again a.f_again a.d_again
  b_again : Binds K a.d_again ["ship"] []
  m_again : mg "again" = some (.ref a.f_again)
  F_tell_state : Fun K "tell_state" "tell_state" s_tell_state a.f_tell_state a.d_tell_state
  b_tell_state : Binds K a.d_tell_state ["ship"] []
  m_tell_state : mg "tell_state" = some (.ref a.f_tell_state)
  F_is_history : Fun K "is_history" "is_history" s_is_history a.f_is_history a.d_is_history
  b_is_history : Binds K a.d_is_history ["number"] []
  m_is_history : mg "is_history" = some (.ref a.f_is_history)
  F_do_history : Fun K "do_history" "do_history" s_do_history a.f_do_history a.d_do_history
  b_do_history : Binds K a.d_do_history ["ship", "number"] []
  m_do_history : mg "do_history" = some (.ref a.f_do_history)
  F_lasts : Fun K "lasts" "lasts" s_lasts a.f_lasts a.d_lasts
  b_lasts : Binds K a.d_lasts ["state"] []
  m_lasts : mg "lasts" = some (.ref a.f_lasts)
  F_first_hour : Fun K "first_hour" "first_hour" s_first_hour a.f_first_hour a.d_first_hour
  b_first_hour : Binds K a.d_first_hour ["state", "may"] []
  m_first_hour : mg "first_hour" = some (.ref a.f_first_hour)
  F_next_go : Fun K "next_go" "next_go" s_next_go a.f_next_go a.d_next_go
  b_next_go : Binds K a.d_next_go ["state"] []
  m_next_go : mg "next_go" = some (.ref a.f_next_go)
  F_ahead : Fun K "ahead" "ahead" s_ahead a.f_ahead a.d_ahead
  b_ahead : Binds K a.d_ahead ["state", "n"] []
  m_ahead : mg "ahead" = some (.ref a.f_ahead)
  F_has_hundredths : Fun K "has_hundredths" "has_hundredths" s_has_hundredths a.f_has_hundredths a.d_has_hundredths
  b_has_hundredths : Binds K a.d_has_hundredths ["state", "h"] []
  m_has_hundredths : mg "has_hundredths" = some (.ref a.f_has_hundredths)
  F_full : Fun K "full" "full" s_full a.f_full a.d_full
  b_full : Binds K a.d_full ["state", "h"] []
  m_full : mg "full" = some (.ref a.f_full)
  F_flows : Fun K "flows" "flows" s_flows a.f_flows a.d_flows
  b_flows : Binds K a.d_flows ["state"] []
  m_flows : mg "flows" = some (.ref a.f_flows)
  F_is_outlook : Fun K "is_outlook" "is_outlook" s_is_outlook a.f_is_outlook a.d_is_outlook
  b_is_outlook : Binds K a.d_is_outlook ["number"] []
  m_is_outlook : mg "is_outlook" = some (.ref a.f_is_outlook)
  F_look_ahead : Fun K "look_ahead" "look_ahead" s_look_ahead a.f_look_ahead a.d_look_ahead
  b_look_ahead : Binds K a.d_look_ahead ["state", "number", "numbers"] []
  m_look_ahead : mg "look_ahead" = some (.ref a.f_look_ahead)
  F_may_start : Fun K "may_start" "may_start" s_may_start a.f_may_start a.d_may_start
  b_may_start : Binds K a.d_may_start ["numbers"] []
  m_may_start : mg "may_start" = some (.ref a.f_may_start)
  F_started : Fun K "started" "started" s_started a.f_started a.d_started
  b_started : Binds K a.d_started ["numbers"] []
  m_started : mg "started" = some (.ref a.f_started)
  F_answer_of : Fun K "answer_of" "answer_of" s_answer_of a.f_answer_of a.d_answer_of
  b_answer_of : Binds K a.d_answer_of ["ship", "number", "numbers"] []
  m_answer_of : mg "answer_of" = some (.ref a.f_answer_of)
  F_answers : Fun K "answers" "answers" s_answers a.f_answers a.d_answers
  b_answers : Binds K a.d_answers ["calls"] []
  m_answers : mg "answers" = some (.ref a.f_answers)
def F_Sizes (v0 v1 v2 v3 v4 v5 : V) : List (Str × V) := [("fresh", v0), ("makes", v1), ("grey", v2), ("grey_go", v3), ("black", v4), ("black_go", v5)]
def F_State (v0 v1 v2 v3 v4 v5 v6 v7 v8 v9 v10 v11 v12 v13 v14 v15 v16 : V) : List (Str × V) := [("sizes", v0), ("legs", v1), ("hour", v2), ("persons", v3), ("uses", v4), ("making", v5), ("letting_grey", v6), ("letting_black", v7), ("fresh", v8), ("grey", v9), ("black", v10), ("taken_in", v11), ("used", v12), ("grey_gone", v13), ("black_gone", v14), ("ashore", v15), ("lacked", v16)]
def F_Ship (v0 v1 v2 : V) : List (Str × V) := [("now", v0), ("earlier", v1), ("undone", v2)]
def F_Leg (v0 v1 v2 : V) : List (Str × V) := [("end", v0), ("miles", v1), ("knots", v2)]
end Sp
end
section
set_option Elab.async false
set_option linter.all false
set_option maxRecDepth 100000
set_option maxHeartbeats 3900000
namespace Sp
open PySem PySem.Spec PyProof.Rows L2
open Km442 (Leg)

/-! ### the data, as the program keeps it -/
structure Sz where
  fresh : Int
  makes : Int
  grey : Int
  greyGo : Int
  black : Int
  blackGo : Int
structure Raw where
  sz : Sz
  legs : List Leg
  hour : Int
  persons : Int
  uses : Int
  making : Int
  lgrey : Int
  lblack : Int
  fresh : Int
  grey : Int
  black : Int
  taken : Int
  used : Int
  ggone : Int
  bgone : Int
  ashore : Int
  lacked : Int
def szF (z : Sz) : List (Str × V) := F_Sizes (.int z.fresh) (.int z.makes) (.int z.grey) (.int z.greyGo) (.int z.black) (.int z.blackGo)
def stF (z t : Addr) (r : Raw) : List (Str × V) := F_State (.ref z) (.ref t) (.int r.hour) (.int r.persons) (.int r.uses) (.int r.making) (.int r.lgrey) (.int r.lblack) (.int r.fresh) (.int r.grey) (.int r.black) (.int r.taken) (.int r.used) (.int r.ggone) (.int r.bgone) (.int r.ashore) (.int r.lacked)
def lgF (e m k : Int) : List (Str × V) := F_Leg (.int e) (.int m) (.int k)
def LegAt (a : Ad) (H : Hp) (p : Addr) (e m k : Int) : Prop := ∃ dx, H p = some (.ins a.c_Leg dx (lgF e m k))
def SzAt (a : Ad) (H : Hp) (p : Addr) (z : Sz) : Prop := ∃ dx, H p = some (.ins a.c_Sizes dx (szF z))
/-- the legs, one behind another from hour b on -/
def LegsAt (a : Ad) (H : Hp) : Nat → List Addr → List Leg → Prop
  | _, [], [] => True
  | b, p :: ps, x :: l => LegAt a H p ((b + x.hours : Nat) : Int) (x.miles : Int) (x.knots : Int) ∧ LegsAt a H (b + x.hours) ps l
  | _, _, _ => False
structure StAt (a : Ad) (H : Hp) (p : Addr) (r : Raw) (dx z t : Addr) (ps : List Addr) : Prop where
  st : H p = some (.ins a.c_State dx (stF z t r))
  sz : SzAt a H z r.sz
  tu : H t = some (.tup (ps.map V.ref))
  lg : LegsAt a H 0 ps r.legs
def StateAt (a : Ad) (H : Hp) (p : Addr) (r : Raw) : Prop := ∃ dx z t ps, StAt a H p r dx z t ps
/-- all but what stands at p is as it was -/
def But (p : Addr) (H H' : Hp) : Prop := ∀ b o, H b = some o → b ≠ p → H' b = some o
theorem But.refl (p : Addr) (H : Hp) : But p H H := fun _ _ h _ => h
theorem But.trans {p : Addr} {H H1 H2 : Hp} (x : But p H H1) (y : But p H1 H2) : But p H H2 := fun b o h n => y b o (x b o h n) n
theorem But.upd {p : Addr} {H : Hp} {o : HO} : But p H (upd H p o) := fun b u h n => by rw [upd_ne n]; exact h
theorem But.of {p : Addr} {H H' : Hp} (s : Same H H') : But p H H' := fun b o h _ => s b o h
/-- what was not there may change -/
theorem But.same {p : Addr} {H H' : Hp} (x : But p H H') (n : H p = none) : Same H H' := fun b o h => x b o h (ne_of_none h n)
theorem Same.upd {H : Hp} {p : Addr} {o : HO} (n : H p = none) : Same H (upd H p o) := fun b u h => by rw [upd_ne (ne_of_none h n)]; exact h
theorem ins_ne {C D dx dy : Addr} {fs gs : List (Str × V)} (h : fs ≠ gs) : HO.ins C dx fs ≠ HO.ins D dy gs := fun e => h (by injection e)
theorem key_ne {f g : Str} {v w : V} {fs gs : List (Str × V)} (h : f ≠ g) : ((f, v) :: fs) ≠ ((g, w) :: gs) := fun e => h (congrArg Prod.fst (List.cons.inj e).1)
theorem lg_st {a : Ad} {C D dx dy z t : Addr} {r : Raw} {e m k : Int} : HO.ins C dx (lgF e m k) ≠ HO.ins D dy (stF z t r) := ins_ne (key_ne (by decide +kernel))
theorem sz_st {C D dx dy z t : Addr} {r : Raw} {s : Sz} : HO.ins C dx (szF s) ≠ HO.ins D dy (stF z t r) := ins_ne (key_ne (by decide +kernel))
theorem LegAt.same {a : Ad} {H H' : Hp} {p : Addr} {e m k : Int} (s : Same H H') : LegAt a H p e m k → LegAt a H' p e m k := fun ⟨dx, h⟩ => ⟨dx, s _ _ h⟩
theorem SzAt.same {a : Ad} {H H' : Hp} {p : Addr} {z : Sz} (s : Same H H') : SzAt a H p z → SzAt a H' p z := fun ⟨dx, h⟩ => ⟨dx, s _ _ h⟩
theorem LegsAt.same {a : Ad} {H H' : Hp} (s : Same H H') : ∀ {b : Nat} {ps : List Addr} {l : List Leg}, LegsAt a H b ps l → LegsAt a H' b ps l
  | _, [], [], h => h
  | _, _ :: _, _ :: _, h => ⟨h.1.same s, LegsAt.same s h.2⟩
  | _, [], _ :: _, h => h
  | _, _ :: _, [], h => h
theorem StAt.same {a : Ad} {H H' : Hp} {p : Addr} {r : Raw} {dx z t : Addr} {ps : List Addr} (S : StAt a H p r dx z t ps) (s : Same H H') : StAt a H' p r dx z t ps := ⟨s _ _ S.st, S.sz.same s, s _ _ S.tu, S.lg.same s⟩
theorem StateAt.same {a : Ad} {H H' : Hp} {p : Addr} {r : Raw} (s : Same H H') : StateAt a H p r → StateAt a H' p r := fun ⟨dx, z, t, ps, S⟩ => ⟨dx, z, t, ps, S.same s⟩
theorem LegsAt.but {a : Ad} {H H' : Hp} {q : Addr} {C dy z t : Addr} {r : Raw} (hq : H q = some (.ins C dy (stF z t r))) (s : But q H H') : ∀ {b : Nat} {ps : List Addr} {l : List Leg}, LegsAt a H b ps l → LegsAt a H' b ps l
  | _, [], [], h => h
  | _, p :: _, _ :: _, ⟨⟨dx, h1⟩, h2⟩ => ⟨⟨dx, s _ _ h1 (ne_of h1 hq (lg_st (a := a)))⟩, LegsAt.but hq s h2⟩
  | _, [], _ :: _, h => h
  | _, _ :: _, [], h => h
/-- a state is written: its sizes and its legs stay -/
theorem StAt.set {a : Ad} {H : Hp} {p : Addr} {r r' : Raw} {dx z t : Addr} {ps : List Addr} (S : StAt a H p r dx z t ps) (h1 : r'.sz = r.sz := by rfl) (h2 : r'.legs = r.legs := by rfl) : StAt a (L2.upd H p (.ins a.c_State dx (stF z t r'))) p r' dx z t ps := by
  obtain ⟨dz, hz⟩ := S.sz
  refine ⟨upd_same, ⟨dz, ?_⟩, ?_, ?_⟩
  · rw [upd_ne (ne_of hz S.st sz_st), h1]; exact hz
  · rw [upd_ne (ne_of S.tu S.st (by intro e; cases e))]; exact S.tu
  · rw [h2]; exact LegsAt.but S.st But.upd S.lg
/-- another state, or anything that is no part of it, is written -/
theorem StAt.but {a : Ad} {H H' : Hp} {p q : Addr} {r : Raw} {dx z t : Addr} {ps : List Addr} {C dy z' t' : Addr} {r' : Raw} (S : StAt a H p r dx z t ps) (hq : H q = some (.ins C dy (stF z' t' r'))) (n : p ≠ q) (s : But q H H') : StAt a H' p r dx z t ps := by
  obtain ⟨dz, hz⟩ := S.sz
  exact ⟨s _ _ S.st n, ⟨dz, s _ _ hz (ne_of hz hq sz_st)⟩, s _ _ S.tu (ne_of S.tu hq (by intro e; cases e)), LegsAt.but hq s S.lg⟩
theorem LegsAt.len {a : Ad} {H : Hp} : ∀ {b : Nat} {ps : List Addr} {l : List Leg}, LegsAt a H b ps l → ps.length = l.length
  | _, [], [], _ => rfl
  | _, _ :: _, _ :: _, h => by rw [List.length_cons, List.length_cons, LegsAt.len h.2]
  | _, [], _ :: _, h => h.elim
  | _, _ :: _, [], h => h.elim
theorem LegsAt.get {a : Ad} {H : Hp} : ∀ {b : Nat} {ps : List Addr} {l : List Leg} {i : Nat} {p : Addr}, LegsAt a H b ps l → ps[i]? = some p → ∃ x, l[i]? = some x ∧ LegAt a H p ((b + Sh.endOf (l.take (i + 1)) : Nat) : Int) (x.miles : Int) (x.knots : Int)
  | _, [], [], _, _, _, e => by simp at e
  | b, p :: ps, x :: l, 0, q, h, e => by
    have : p = q := by simpa using e
    subst this
    refine ⟨x, rfl, ?_⟩
    have e2 : Sh.endOf ((x :: l).take 1) = x.hours := by
      rw [List.take_succ_cons, List.take_zero, Sh.endOf_cons, Sh.endOf_nil, Nat.add_zero]
    rw [e2]
    exact h.1
  | b, p :: ps, x :: l, i + 1, q, h, e => by
    obtain ⟨y, h1, h2⟩ := LegsAt.get (i := i) (p := q) h.2 (by simpa using e)
    refine ⟨y, by simpa using h1, ?_⟩
    rw [List.take_succ_cons, Sh.endOf_cons, ← Nat.add_assoc]
    exact h2
  | _, [], _ :: _, _, _, h, _ => h.elim
  | _, _ :: _, [], _, _, h, _ => h.elim
theorem LegsAt.snoc {a : Ad} {H : Hp} {q : Addr} {y : Leg} : ∀ {b : Nat} {ps : List Addr} {l : List Leg}, LegsAt a H b ps l → LegAt a H q ((b + Sh.endOf l + y.hours : Nat) : Int) (y.miles : Int) (y.knots : Int) → LegsAt a H b (ps ++ [q]) (l ++ [y])
  | b, [], [], _, h => ⟨by rw [Sh.endOf_nil, Nat.add_zero] at h; exact h, True.intro⟩
  | b, p :: ps, x :: l, h, h2 => ⟨h.1, LegsAt.snoc h.2 (by rw [Sh.endOf_cons, ← Nat.add_assoc] at h2; exact h2)⟩
  | _, [], _ :: _, h, _ => h.elim
  | _, _ :: _, [], h, _ => h.elim

section
variable {P : Program} {w : World} {K : PySem.W.Frag} {mg : Str → Option Value} {base : Heap} {a : Ad}

/-! ### the classes' beginnings -/
def sp_Leg_init (a : Ad) : Sp := fun vs H Q _ => ∃ (p dx : Addr) (e m k : Int), vs = [.ref p, .int e, .int m, .int k] ∧ H p = some (.ins a.c_Leg dx []) ∧ Q .non (upd H p (.ins a.c_Leg dx (lgF e m k)))
theorem ok_Leg_init (T : Tx K mg a) : FnOk P w K mg base CX0 1 a.f_Leg_init a.d_Leg_init ["self", "end", "miles", "knots"] (sp_Leg_init a) := by
  refine T.F_Leg_init.ok sc_Leg_init (fun vs H Q E h => ?_) (fun cdv A outer s H vs Q E hr h => ?_)
  · obtain ⟨p, dx, e, m, k, rfl, _⟩ := h
    rfl
  · obtain ⟨p, dx, e, m, k, rfl, hp, h⟩ := h
    refine ⟨_, (pss_cons (ps_fld (pv 0) (pv 1) rfl)
      (pss_cons (ps_fld (pv 0) (pv 2) rfl)
      (pss_one (ps_fld (pv 0) (pv 3) rfl)))), ?_⟩
    refine ⟨_, rfl, _, rfl, p, a.c_Leg, dx, _, rfl, hp, T.c_Leg, T.n_Leg_end, (by show 0 < 1000; decide), ?_⟩
    refine ⟨_, rfl, _, rfl, p, a.c_Leg, dx, _, rfl, upd_same, T.c_Leg, T.n_Leg_miles, (by show 1 < 1000; decide), ?_⟩
    refine ⟨_, rfl, _, rfl, p, a.c_Leg, dx, _, rfl, upd_same, T.c_Leg, T.n_Leg_knots, (by show 2 < 1000; decide), ?_⟩
    rw [upd_upd, upd_upd]
    exact h
def sp_Sizes_init (a : Ad) : Sp := fun vs H Q _ => ∃ (p dx : Addr) (z : Sz), vs = [.ref p, .int z.fresh, .int z.makes, .int z.grey, .int z.greyGo, .int z.black, .int z.blackGo] ∧ H p = some (.ins a.c_Sizes dx []) ∧ Q .non (upd H p (.ins a.c_Sizes dx (szF z)))
theorem ok_Sizes_init (T : Tx K mg a) : FnOk P w K mg base CX0 1 a.f_Sizes_init a.d_Sizes_init ["self", "fresh", "makes", "grey", "grey_go", "black", "black_go"] (sp_Sizes_init a) := by
  refine T.F_Sizes_init.ok sc_Sizes_init (fun vs H Q E h => ?_) (fun cdv A outer s H vs Q E hr h => ?_)
  · obtain ⟨p, dx, z, rfl, _⟩ := h
    rfl
  · obtain ⟨p, dx, z, rfl, hp, h⟩ := h
    refine ⟨_, (pss_cons (ps_fld (pv 0) (pv 1) rfl)
      (pss_cons (ps_fld (pv 0) (pv 2) rfl)
      (pss_cons (ps_fld (pv 0) (pv 3) rfl)
      (pss_cons (ps_fld (pv 0) (pv 4) rfl)
      (pss_cons (ps_fld (pv 0) (pv 5) rfl)
      (pss_one (ps_fld (pv 0) (pv 6) rfl))))))), ?_⟩
    refine ⟨_, rfl, _, rfl, p, a.c_Sizes, dx, _, rfl, hp, T.c_Sizes, T.n_Sizes_fresh, (by show 0 < 1000; decide), ?_⟩
    refine ⟨_, rfl, _, rfl, p, a.c_Sizes, dx, _, rfl, upd_same, T.c_Sizes, T.n_Sizes_makes, (by show 1 < 1000; decide), ?_⟩
    refine ⟨_, rfl, _, rfl, p, a.c_Sizes, dx, _, rfl, upd_same, T.c_Sizes, T.n_Sizes_grey, (by show 2 < 1000; decide), ?_⟩
    refine ⟨_, rfl, _, rfl, p, a.c_Sizes, dx, _, rfl, upd_same, T.c_Sizes, T.n_Sizes_grey_go, (by show 3 < 1000; decide), ?_⟩
    refine ⟨_, rfl, _, rfl, p, a.c_Sizes, dx, _, rfl, upd_same, T.c_Sizes, T.n_Sizes_black, (by show 4 < 1000; decide), ?_⟩
    refine ⟨_, rfl, _, rfl, p, a.c_Sizes, dx, _, rfl, upd_same, T.c_Sizes, T.n_Sizes_black_go, (by show 5 < 1000; decide), ?_⟩
    rw [upd_upd, upd_upd, upd_upd, upd_upd, upd_upd]
    exact h
/-- as at first -/
def raw0 (z : Sz) : Raw := ⟨z, [], 0, 0, 0, 0, 0, 0, z.fresh, 0, 0, 0, 0, 0, 0, 0, 0⟩
def sp_State_init (a : Ad) : Sp := fun vs H Q _ => ∃ (p dx q : Addr) (z : Sz), vs = [.ref p, .ref q] ∧ H p = some (.ins a.c_State dx []) ∧ SzAt a H q z ∧
  ∀ (t : Addr) (H' : Hp), StAt a H' p (raw0 z) dx q t [] → But p H H' → Q .non H'
theorem ok_State_init (T : Tx K mg a) : FnOk P w K mg base CX0 1 a.f_State_init a.d_State_init ["self", "sizes"] (sp_State_init a) := by
  refine T.F_State_init.ok sc_State_init (fun vs H Q E h => ?_) (fun cdv A outer s H vs Q E hr h => ?_)
  · obtain ⟨p, dx, q, z, rfl, _⟩ := h
    rfl
  · obtain ⟨p, dx, q, z, rfl, hp, ⟨dz, hz⟩, h⟩ := h
    refine ⟨_, (pss_cons (ps_fld (pv 0) (pv 1) rfl)
      (pss_cons (ps_fld (pv 0) (pe_tup pa_nil) rfl)
      (pss_cons (ps_fld (pv 0) pe_int rfl)
      (pss_cons (ps_fld (pv 0) pe_int rfl)
      (pss_cons (ps_fld (pv 0) pe_int rfl)
      (pss_cons (ps_fld (pv 0) pe_int rfl)
      (pss_cons (ps_fld (pv 0) pe_int rfl)
      (pss_cons (ps_fld (pv 0) pe_int rfl)
      (pss_cons (ps_fld (pv 0) (pe_fld (pv 1) rfl) rfl)
      (pss_cons (ps_fld (pv 0) pe_int rfl)
      (pss_cons (ps_fld (pv 0) pe_int rfl)
      (pss_cons (ps_fld (pv 0) pe_int rfl)
      (pss_cons (ps_fld (pv 0) pe_int rfl)
      (pss_cons (ps_fld (pv 0) pe_int rfl)
      (pss_cons (ps_fld (pv 0) pe_int rfl)
      (pss_cons (ps_fld (pv 0) pe_int rfl)
      (pss_one (ps_fld (pv 0) pe_int rfl)))))))))))))))))), ?_⟩
    have nq : q ≠ p := ne_of hz hp (ins_ne (fun e => nomatch e))
    refine ⟨_, rfl, _, rfl, p, a.c_State, dx, _, rfl, hp, T.c_State, T.n_State_sizes, (by show 0 < 1000; decide), ?_⟩
    refine ⟨Nat.zero_le _, fun t ht => ?_⟩
    have np : p ≠ t := ne_of_none upd_same ht
    have nqt : q ≠ t := ne_of_none (show upd H p _ q = _ by rw [upd_ne nq]; exact hz) ht
    refine ⟨_, rfl, p, a.c_State, dx, _, rfl, (by rw [upd_ne np]; exact upd_same), T.c_State, T.n_State_legs, (by show 1 < 1000; decide), ?_⟩
    have e1 : putF "legs" (.ref t) (putF "sizes" (.ref q) []) = ([("sizes", .ref q), ("legs", .ref t)] : List (Str × V)) := rfl
    rw [e1]
    refine ⟨_, rfl, p, a.c_State, dx, _, rfl, upd_same, T.c_State, T.n_State_hour, (by show 2 < 1000; decide), ?_⟩
    rw [upd_upd]
    have e2 : putF "hour" (.int 0) [("sizes", .ref q), ("legs", .ref t)] = ([("sizes", .ref q), ("legs", .ref t), ("hour", .int 0)] : List (Str × V)) := rfl
    rw [e2]
    refine ⟨_, rfl, p, a.c_State, dx, _, rfl, upd_same, T.c_State, T.n_State_persons, (by show 3 < 1000; decide), ?_⟩
    rw [upd_upd]
    have e3 : putF "persons" (.int 0) [("sizes", .ref q), ("legs", .ref t), ("hour", .int 0)] = ([("sizes", .ref q), ("legs", .ref t), ("hour", .int 0), ("persons", .int 0)] : List (Str × V)) := rfl
    rw [e3]
    refine ⟨_, rfl, p, a.c_State, dx, _, rfl, upd_same, T.c_State, T.n_State_uses, (by show 4 < 1000; decide), ?_⟩
    rw [upd_upd]
    have e4 : putF "uses" (.int 0) [("sizes", .ref q), ("legs", .ref t), ("hour", .int 0), ("persons", .int 0)] = ([("sizes", .ref q), ("legs", .ref t), ("hour", .int 0), ("persons", .int 0), ("uses", .int 0)] : List (Str × V)) := rfl
    rw [e4]
    refine ⟨_, rfl, p, a.c_State, dx, _, rfl, upd_same, T.c_State, T.n_State_making, (by show 5 < 1000; decide), ?_⟩
    rw [upd_upd]
    have e5 : putF "making" (.int 0) [("sizes", .ref q), ("legs", .ref t), ("hour", .int 0), ("persons", .int 0), ("uses", .int 0)] = ([("sizes", .ref q), ("legs", .ref t), ("hour", .int 0), ("persons", .int 0), ("uses", .int 0), ("making", .int 0)] : List (Str × V)) := rfl
    rw [e5]
    refine ⟨_, rfl, p, a.c_State, dx, _, rfl, upd_same, T.c_State, T.n_State_letting_grey, (by show 6 < 1000; decide), ?_⟩
    rw [upd_upd]
    have e6 : putF "letting_grey" (.int 0) [("sizes", .ref q), ("legs", .ref t), ("hour", .int 0), ("persons", .int 0), ("uses", .int 0), ("making", .int 0)] = ([("sizes", .ref q), ("legs", .ref t), ("hour", .int 0), ("persons", .int 0), ("uses", .int 0), ("making", .int 0), ("letting_grey", .int 0)] : List (Str × V)) := rfl
    rw [e6]
    refine ⟨_, rfl, p, a.c_State, dx, _, rfl, upd_same, T.c_State, T.n_State_letting_black, (by show 7 < 1000; decide), ?_⟩
    rw [upd_upd]
    have e7 : putF "letting_black" (.int 0) [("sizes", .ref q), ("legs", .ref t), ("hour", .int 0), ("persons", .int 0), ("uses", .int 0), ("making", .int 0), ("letting_grey", .int 0)] = ([("sizes", .ref q), ("legs", .ref t), ("hour", .int 0), ("persons", .int 0), ("uses", .int 0), ("making", .int 0), ("letting_grey", .int 0), ("letting_black", .int 0)] : List (Str × V)) := rfl
    rw [e7]
    refine ⟨_, rfl, q, a.c_Sizes, dz, _, _, rfl, (by rw [upd_ne nq, upd_ne nqt, upd_ne nq]; exact hz), T.c_Sizes, T.n_Sizes_fresh, rfl, ?_⟩
    refine ⟨_, rfl, p, a.c_State, dx, _, rfl, upd_same, T.c_State, T.n_State_fresh, (by show 8 < 1000; decide), ?_⟩
    rw [upd_upd]
    have e8 : putF "fresh" (.int z.fresh) [("sizes", .ref q), ("legs", .ref t), ("hour", .int 0), ("persons", .int 0), ("uses", .int 0), ("making", .int 0), ("letting_grey", .int 0), ("letting_black", .int 0)] = ([("sizes", .ref q), ("legs", .ref t), ("hour", .int 0), ("persons", .int 0), ("uses", .int 0), ("making", .int 0), ("letting_grey", .int 0), ("letting_black", .int 0), ("fresh", .int z.fresh)] : List (Str × V)) := rfl
    rw [e8]
    refine ⟨_, rfl, p, a.c_State, dx, _, rfl, upd_same, T.c_State, T.n_State_grey, (by show 9 < 1000; decide), ?_⟩
    rw [upd_upd]
    have e9 : putF "grey" (.int 0) [("sizes", .ref q), ("legs", .ref t), ("hour", .int 0), ("persons", .int 0), ("uses", .int 0), ("making", .int 0), ("letting_grey", .int 0), ("letting_black", .int 0), ("fresh", .int z.fresh)] = ([("sizes", .ref q), ("legs", .ref t), ("hour", .int 0), ("persons", .int 0), ("uses", .int 0), ("making", .int 0), ("letting_grey", .int 0), ("letting_black", .int 0), ("fresh", .int z.fresh), ("grey", .int 0)] : List (Str × V)) := rfl
    rw [e9]
    refine ⟨_, rfl, p, a.c_State, dx, _, rfl, upd_same, T.c_State, T.n_State_black, (by show 10 < 1000; decide), ?_⟩
    rw [upd_upd]
    have e10 : putF "black" (.int 0) [("sizes", .ref q), ("legs", .ref t), ("hour", .int 0), ("persons", .int 0), ("uses", .int 0), ("making", .int 0), ("letting_grey", .int 0), ("letting_black", .int 0), ("fresh", .int z.fresh), ("grey", .int 0)] = ([("sizes", .ref q), ("legs", .ref t), ("hour", .int 0), ("persons", .int 0), ("uses", .int 0), ("making", .int 0), ("letting_grey", .int 0), ("letting_black", .int 0), ("fresh", .int z.fresh), ("grey", .int 0), ("black", .int 0)] : List (Str × V)) := rfl
    rw [e10]
    refine ⟨_, rfl, p, a.c_State, dx, _, rfl, upd_same, T.c_State, T.n_State_taken_in, (by show 11 < 1000; decide), ?_⟩
    rw [upd_upd]
    have e11 : putF "taken_in" (.int 0) [("sizes", .ref q), ("legs", .ref t), ("hour", .int 0), ("persons", .int 0), ("uses", .int 0), ("making", .int 0), ("letting_grey", .int 0), ("letting_black", .int 0), ("fresh", .int z.fresh), ("grey", .int 0), ("black", .int 0)] = ([("sizes", .ref q), ("legs", .ref t), ("hour", .int 0), ("persons", .int 0), ("uses", .int 0), ("making", .int 0), ("letting_grey", .int 0), ("letting_black", .int 0), ("fresh", .int z.fresh), ("grey", .int 0), ("black", .int 0), ("taken_in", .int 0)] : List (Str × V)) := rfl
    rw [e11]
    refine ⟨_, rfl, p, a.c_State, dx, _, rfl, upd_same, T.c_State, T.n_State_used, (by show 12 < 1000; decide), ?_⟩
    rw [upd_upd]
    have e12 : putF "used" (.int 0) [("sizes", .ref q), ("legs", .ref t), ("hour", .int 0), ("persons", .int 0), ("uses", .int 0), ("making", .int 0), ("letting_grey", .int 0), ("letting_black", .int 0), ("fresh", .int z.fresh), ("grey", .int 0), ("black", .int 0), ("taken_in", .int 0)] = ([("sizes", .ref q), ("legs", .ref t), ("hour", .int 0), ("persons", .int 0), ("uses", .int 0), ("making", .int 0), ("letting_grey", .int 0), ("letting_black", .int 0), ("fresh", .int z.fresh), ("grey", .int 0), ("black", .int 0), ("taken_in", .int 0), ("used", .int 0)] : List (Str × V)) := rfl
    rw [e12]
    refine ⟨_, rfl, p, a.c_State, dx, _, rfl, upd_same, T.c_State, T.n_State_grey_gone, (by show 13 < 1000; decide), ?_⟩
    rw [upd_upd]
    have e13 : putF "grey_gone" (.int 0) [("sizes", .ref q), ("legs", .ref t), ("hour", .int 0), ("persons", .int 0), ("uses", .int 0), ("making", .int 0), ("letting_grey", .int 0), ("letting_black", .int 0), ("fresh", .int z.fresh), ("grey", .int 0), ("black", .int 0), ("taken_in", .int 0), ("used", .int 0)] = ([("sizes", .ref q), ("legs", .ref t), ("hour", .int 0), ("persons", .int 0), ("uses", .int 0), ("making", .int 0), ("letting_grey", .int 0), ("letting_black", .int 0), ("fresh", .int z.fresh), ("grey", .int 0), ("black", .int 0), ("taken_in", .int 0), ("used", .int 0), ("grey_gone", .int 0)] : List (Str × V)) := rfl
    rw [e13]
    refine ⟨_, rfl, p, a.c_State, dx, _, rfl, upd_same, T.c_State, T.n_State_black_gone, (by show 14 < 1000; decide), ?_⟩
    rw [upd_upd]
    have e14 : putF "black_gone" (.int 0) [("sizes", .ref q), ("legs", .ref t), ("hour", .int 0), ("persons", .int 0), ("uses", .int 0), ("making", .int 0), ("letting_grey", .int 0), ("letting_black", .int 0), ("fresh", .int z.fresh), ("grey", .int 0), ("black", .int 0), ("taken_in", .int 0), ("used", .int 0), ("grey_gone", .int 0)] = ([("sizes", .ref q), ("legs", .ref t), ("hour", .int 0), ("persons", .int 0), ("uses", .int 0), ("making", .int 0), ("letting_grey", .int 0), ("letting_black", .int 0), ("fresh", .int z.fresh), ("grey", .int 0), ("black", .int 0), ("taken_in", .int 0), ("used", .int 0), ("grey_gone", .int 0), ("black_gone", .int 0)] : List (Str × V)) := rfl
    rw [e14]
    refine ⟨_, rfl, p, a.c_State, dx, _, rfl, upd_same, T.c_State, T.n_State_ashore, (by show 15 < 1000; decide), ?_⟩
    rw [upd_upd]
    have e15 : putF "ashore" (.int 0) [("sizes", .ref q), ("legs", .ref t), ("hour", .int 0), ("persons", .int 0), ("uses", .int 0), ("making", .int 0), ("letting_grey", .int 0), ("letting_black", .int 0), ("fresh", .int z.fresh), ("grey", .int 0), ("black", .int 0), ("taken_in", .int 0), ("used", .int 0), ("grey_gone", .int 0), ("black_gone", .int 0)] = ([("sizes", .ref q), ("legs", .ref t), ("hour", .int 0), ("persons", .int 0), ("uses", .int 0), ("making", .int 0), ("letting_grey", .int 0), ("letting_black", .int 0), ("fresh", .int z.fresh), ("grey", .int 0), ("black", .int 0), ("taken_in", .int 0), ("used", .int 0), ("grey_gone", .int 0), ("black_gone", .int 0), ("ashore", .int 0)] : List (Str × V)) := rfl
    rw [e15]
    refine ⟨_, rfl, p, a.c_State, dx, _, rfl, upd_same, T.c_State, T.n_State_lacked, (by show 16 < 1000; decide), ?_⟩
    rw [upd_upd]
    have e16 : putF "lacked" (.int 0) [("sizes", .ref q), ("legs", .ref t), ("hour", .int 0), ("persons", .int 0), ("uses", .int 0), ("making", .int 0), ("letting_grey", .int 0), ("letting_black", .int 0), ("fresh", .int z.fresh), ("grey", .int 0), ("black", .int 0), ("taken_in", .int 0), ("used", .int 0), ("grey_gone", .int 0), ("black_gone", .int 0), ("ashore", .int 0)] = ([("sizes", .ref q), ("legs", .ref t), ("hour", .int 0), ("persons", .int 0), ("uses", .int 0), ("making", .int 0), ("letting_grey", .int 0), ("letting_black", .int 0), ("fresh", .int z.fresh), ("grey", .int 0), ("black", .int 0), ("taken_in", .int 0), ("used", .int 0), ("grey_gone", .int 0), ("black_gone", .int 0), ("ashore", .int 0), ("lacked", .int 0)] : List (Str × V)) := rfl
    rw [e16]
    refine h t _ ⟨upd_same, ⟨dz, ?_⟩, ?_, True.intro⟩ ?_
    · rw [upd_ne nq, upd_ne nqt, upd_ne nq]; exact hz
    · rw [upd_ne np.symm]; exact upd_same
    · intro b o hb n
      have : upd H p (.ins a.c_State dx (putF "sizes" (.ref q) [])) b = some o := by rw [upd_ne n]; exact hb
      rw [upd_ne n, upd_ne (ne_of_none this ht)]
      exact this
end
end Sp
end
section
set_option Elab.async false
set_option linter.all false
set_option maxRecDepth 100000
set_option maxHeartbeats 3900000
namespace Sp
open PySem PySem.Spec PyProof.Rows L2
open Km442 (Leg)
section
variable {P : Program} {w : World} {K : PySem.W.Frag} {mg : Str → Option Value} {base : Heap} {a : Ad}
def sp_copy_of (a : Ad) : Sp := fun vs H Q _ => ∃ (p : Addr) (r : Raw), vs = [.ref p] ∧ StateAt a H p r ∧ ∀ (q : Addr) (H' : Hp), H q = none → StateAt a H' q r → Same H H' → Q (.ref q) H'
theorem ok_copy_of (T : Tx K mg a) : FnOk P w K mg base CX0 3 a.f_copy_of a.d_copy_of ["state"] (sp_copy_of a) := by
  refine T.F_copy_of.ok sc_copy_of (fun vs H Q E h => ?_) (fun cdv A outer s H vs Q E hr h => ?_)
  · obtain ⟨p, r, rfl, _⟩ := h
    rfl
  · obtain ⟨p, r, rfl, ⟨dx, z, t, ps, S⟩, h⟩ := h
    refine ⟨_, (pss_cons (ps_set (i := 1) sc_copy_of.nd rfl (Or.inl rfl) (pe_make T.M_State (ok_State_init T) (hr.mono (by decide)) rfl T.m_State T.b_State_init .nil pass0 (pa_cons (pe_fld (pv 0) rfl) pa_nil)))
      (pss_cons (ps_fld (pv 1) (pe_fld (pv 0) rfl) rfl)
      (pss_cons (ps_fld (pv 1) (pe_fld (pv 0) rfl) rfl)
      (pss_cons (ps_fld (pv 1) (pe_fld (pv 0) rfl) rfl)
      (pss_cons (ps_fld (pv 1) (pe_fld (pv 0) rfl) rfl)
      (pss_cons (ps_fld (pv 1) (pe_fld (pv 0) rfl) rfl)
      (pss_cons (ps_fld (pv 1) (pe_fld (pv 0) rfl) rfl)
      (pss_cons (ps_fld (pv 1) (pe_fld (pv 0) rfl) rfl)
      (pss_cons (ps_fld (pv 1) (pe_fld (pv 0) rfl) rfl)
      (pss_cons (ps_fld (pv 1) (pe_fld (pv 0) rfl) rfl)
      (pss_cons (ps_fld (pv 1) (pe_fld (pv 0) rfl) rfl)
      (pss_cons (ps_fld (pv 1) (pe_fld (pv 0) rfl) rfl)
      (pss_cons (ps_fld (pv 1) (pe_fld (pv 0) rfl) rfl)
      (pss_cons (ps_fld (pv 1) (pe_fld (pv 0) rfl) rfl)
      (pss_cons (ps_fld (pv 1) (pe_fld (pv 0) rfl) rfl)
      (pss_cons (ps_fld (pv 1) (pe_fld (pv 0) rfl) rfl)
      (pss_cons (ps_fld (pv 1) (pe_fld (pv 0) rfl) rfl)
      (pss_one (ps_ret (pv 1)))))))))))))))))))), ?_⟩
    refine ⟨_, rfl, p, a.c_State, dx, _, _, rfl, S.st, T.c_State, T.n_State_sizes, rfl, ?_⟩
    intro x dy nx nd ne
    have s0 : Same H (upd (upd H dy (.own x)) x (.ins a.c_State dy [])) := (Same.upd nd).trans (Same.upd (by rw [upd_ne (Ne.symm ne)]; exact nx))
    refine ⟨x, dy, z, r.sz, rfl, upd_same, S.sz.same s0, fun t0 H1 S1 k1 => ⟨rfl, ?_⟩⟩
    have s1 : Same H H1 := Same.made nx nd k1
    have R := S.same s1
    have hx : p ≠ x := ne_of_none S.st nx
    have R' : ∀ {o}, upd H1 x o p = some (.ins a.c_State dx (stF z t r)) := fun {o} => by rw [upd_ne hx]; exact R.st
    refine ⟨_, rfl, p, a.c_State, dx, _, _, rfl, R.st, T.c_State, T.n_State_legs, rfl, _, rfl, x, a.c_State, dy, _, rfl, S1.st, T.c_State, T.n_State_legs, (by show 17 < 1000; decide), ?_⟩
    have e0 : putF "legs" (.ref t) (stF z t0 (raw0 r.sz)) = stF z t ⟨r.sz, [], 0, 0, 0, 0, 0, 0, r.sz.fresh, 0, 0, 0, 0, 0, 0, 0, 0⟩ := rfl
    rw [e0]
    refine ⟨_, rfl, p, a.c_State, dx, _, _, rfl, R', T.c_State, T.n_State_hour, rfl, _, rfl, x, a.c_State, dy, _, rfl, upd_same, T.c_State, T.n_State_hour, (by show 17 < 1000; decide), ?_⟩
    have e1 : putF "hour" (.int r.hour) (stF z t ⟨r.sz, [], 0, 0, 0, 0, 0, 0, r.sz.fresh, 0, 0, 0, 0, 0, 0, 0, 0⟩) = stF z t ⟨r.sz, [], r.hour, 0, 0, 0, 0, 0, r.sz.fresh, 0, 0, 0, 0, 0, 0, 0, 0⟩ := rfl
    rw [upd_upd, e1]
    refine ⟨_, rfl, p, a.c_State, dx, _, _, rfl, R', T.c_State, T.n_State_persons, rfl, _, rfl, x, a.c_State, dy, _, rfl, upd_same, T.c_State, T.n_State_persons, (by show 17 < 1000; decide), ?_⟩
    have e2 : putF "persons" (.int r.persons) (stF z t ⟨r.sz, [], r.hour, 0, 0, 0, 0, 0, r.sz.fresh, 0, 0, 0, 0, 0, 0, 0, 0⟩) = stF z t ⟨r.sz, [], r.hour, r.persons, 0, 0, 0, 0, r.sz.fresh, 0, 0, 0, 0, 0, 0, 0, 0⟩ := rfl
    rw [upd_upd, e2]
    refine ⟨_, rfl, p, a.c_State, dx, _, _, rfl, R', T.c_State, T.n_State_uses, rfl, _, rfl, x, a.c_State, dy, _, rfl, upd_same, T.c_State, T.n_State_uses, (by show 17 < 1000; decide), ?_⟩
    have e3 : putF "uses" (.int r.uses) (stF z t ⟨r.sz, [], r.hour, r.persons, 0, 0, 0, 0, r.sz.fresh, 0, 0, 0, 0, 0, 0, 0, 0⟩) = stF z t ⟨r.sz, [], r.hour, r.persons, r.uses, 0, 0, 0, r.sz.fresh, 0, 0, 0, 0, 0, 0, 0, 0⟩ := rfl
    rw [upd_upd, e3]
    refine ⟨_, rfl, p, a.c_State, dx, _, _, rfl, R', T.c_State, T.n_State_making, rfl, _, rfl, x, a.c_State, dy, _, rfl, upd_same, T.c_State, T.n_State_making, (by show 17 < 1000; decide), ?_⟩
    have e4 : putF "making" (.int r.making) (stF z t ⟨r.sz, [], r.hour, r.persons, r.uses, 0, 0, 0, r.sz.fresh, 0, 0, 0, 0, 0, 0, 0, 0⟩) = stF z t ⟨r.sz, [], r.hour, r.persons, r.uses, r.making, 0, 0, r.sz.fresh, 0, 0, 0, 0, 0, 0, 0, 0⟩ := rfl
    rw [upd_upd, e4]
    refine ⟨_, rfl, p, a.c_State, dx, _, _, rfl, R', T.c_State, T.n_State_letting_grey, rfl, _, rfl, x, a.c_State, dy, _, rfl, upd_same, T.c_State, T.n_State_letting_grey, (by show 17 < 1000; decide), ?_⟩
    have e5 : putF "letting_grey" (.int r.lgrey) (stF z t ⟨r.sz, [], r.hour, r.persons, r.uses, r.making, 0, 0, r.sz.fresh, 0, 0, 0, 0, 0, 0, 0, 0⟩) = stF z t ⟨r.sz, [], r.hour, r.persons, r.uses, r.making, r.lgrey, 0, r.sz.fresh, 0, 0, 0, 0, 0, 0, 0, 0⟩ := rfl
    rw [upd_upd, e5]
    refine ⟨_, rfl, p, a.c_State, dx, _, _, rfl, R', T.c_State, T.n_State_letting_black, rfl, _, rfl, x, a.c_State, dy, _, rfl, upd_same, T.c_State, T.n_State_letting_black, (by show 17 < 1000; decide), ?_⟩
    have e6 : putF "letting_black" (.int r.lblack) (stF z t ⟨r.sz, [], r.hour, r.persons, r.uses, r.making, r.lgrey, 0, r.sz.fresh, 0, 0, 0, 0, 0, 0, 0, 0⟩) = stF z t ⟨r.sz, [], r.hour, r.persons, r.uses, r.making, r.lgrey, r.lblack, r.sz.fresh, 0, 0, 0, 0, 0, 0, 0, 0⟩ := rfl
    rw [upd_upd, e6]
    refine ⟨_, rfl, p, a.c_State, dx, _, _, rfl, R', T.c_State, T.n_State_fresh, rfl, _, rfl, x, a.c_State, dy, _, rfl, upd_same, T.c_State, T.n_State_fresh, (by show 17 < 1000; decide), ?_⟩
    have e7 : putF "fresh" (.int r.fresh) (stF z t ⟨r.sz, [], r.hour, r.persons, r.uses, r.making, r.lgrey, r.lblack, r.sz.fresh, 0, 0, 0, 0, 0, 0, 0, 0⟩) = stF z t ⟨r.sz, [], r.hour, r.persons, r.uses, r.making, r.lgrey, r.lblack, r.fresh, 0, 0, 0, 0, 0, 0, 0, 0⟩ := rfl
    rw [upd_upd, e7]
    refine ⟨_, rfl, p, a.c_State, dx, _, _, rfl, R', T.c_State, T.n_State_grey, rfl, _, rfl, x, a.c_State, dy, _, rfl, upd_same, T.c_State, T.n_State_grey, (by show 17 < 1000; decide), ?_⟩
    have e8 : putF "grey" (.int r.grey) (stF z t ⟨r.sz, [], r.hour, r.persons, r.uses, r.making, r.lgrey, r.lblack, r.fresh, 0, 0, 0, 0, 0, 0, 0, 0⟩) = stF z t ⟨r.sz, [], r.hour, r.persons, r.uses, r.making, r.lgrey, r.lblack, r.fresh, r.grey, 0, 0, 0, 0, 0, 0, 0⟩ := rfl
    rw [upd_upd, e8]
    refine ⟨_, rfl, p, a.c_State, dx, _, _, rfl, R', T.c_State, T.n_State_black, rfl, _, rfl, x, a.c_State, dy, _, rfl, upd_same, T.c_State, T.n_State_black, (by show 17 < 1000; decide), ?_⟩
    have e9 : putF "black" (.int r.black) (stF z t ⟨r.sz, [], r.hour, r.persons, r.uses, r.making, r.lgrey, r.lblack, r.fresh, r.grey, 0, 0, 0, 0, 0, 0, 0⟩) = stF z t ⟨r.sz, [], r.hour, r.persons, r.uses, r.making, r.lgrey, r.lblack, r.fresh, r.grey, r.black, 0, 0, 0, 0, 0, 0⟩ := rfl
    rw [upd_upd, e9]
    refine ⟨_, rfl, p, a.c_State, dx, _, _, rfl, R', T.c_State, T.n_State_taken_in, rfl, _, rfl, x, a.c_State, dy, _, rfl, upd_same, T.c_State, T.n_State_taken_in, (by show 17 < 1000; decide), ?_⟩
    have e10 : putF "taken_in" (.int r.taken) (stF z t ⟨r.sz, [], r.hour, r.persons, r.uses, r.making, r.lgrey, r.lblack, r.fresh, r.grey, r.black, 0, 0, 0, 0, 0, 0⟩) = stF z t ⟨r.sz, [], r.hour, r.persons, r.uses, r.making, r.lgrey, r.lblack, r.fresh, r.grey, r.black, r.taken, 0, 0, 0, 0, 0⟩ := rfl
    rw [upd_upd, e10]
    refine ⟨_, rfl, p, a.c_State, dx, _, _, rfl, R', T.c_State, T.n_State_used, rfl, _, rfl, x, a.c_State, dy, _, rfl, upd_same, T.c_State, T.n_State_used, (by show 17 < 1000; decide), ?_⟩
    have e11 : putF "used" (.int r.used) (stF z t ⟨r.sz, [], r.hour, r.persons, r.uses, r.making, r.lgrey, r.lblack, r.fresh, r.grey, r.black, r.taken, 0, 0, 0, 0, 0⟩) = stF z t ⟨r.sz, [], r.hour, r.persons, r.uses, r.making, r.lgrey, r.lblack, r.fresh, r.grey, r.black, r.taken, r.used, 0, 0, 0, 0⟩ := rfl
    rw [upd_upd, e11]
    refine ⟨_, rfl, p, a.c_State, dx, _, _, rfl, R', T.c_State, T.n_State_grey_gone, rfl, _, rfl, x, a.c_State, dy, _, rfl, upd_same, T.c_State, T.n_State_grey_gone, (by show 17 < 1000; decide), ?_⟩
    have e12 : putF "grey_gone" (.int r.ggone) (stF z t ⟨r.sz, [], r.hour, r.persons, r.uses, r.making, r.lgrey, r.lblack, r.fresh, r.grey, r.black, r.taken, r.used, 0, 0, 0, 0⟩) = stF z t ⟨r.sz, [], r.hour, r.persons, r.uses, r.making, r.lgrey, r.lblack, r.fresh, r.grey, r.black, r.taken, r.used, r.ggone, 0, 0, 0⟩ := rfl
    rw [upd_upd, e12]
    refine ⟨_, rfl, p, a.c_State, dx, _, _, rfl, R', T.c_State, T.n_State_black_gone, rfl, _, rfl, x, a.c_State, dy, _, rfl, upd_same, T.c_State, T.n_State_black_gone, (by show 17 < 1000; decide), ?_⟩
    have e13 : putF "black_gone" (.int r.bgone) (stF z t ⟨r.sz, [], r.hour, r.persons, r.uses, r.making, r.lgrey, r.lblack, r.fresh, r.grey, r.black, r.taken, r.used, r.ggone, 0, 0, 0⟩) = stF z t ⟨r.sz, [], r.hour, r.persons, r.uses, r.making, r.lgrey, r.lblack, r.fresh, r.grey, r.black, r.taken, r.used, r.ggone, r.bgone, 0, 0⟩ := rfl
    rw [upd_upd, e13]
    refine ⟨_, rfl, p, a.c_State, dx, _, _, rfl, R', T.c_State, T.n_State_ashore, rfl, _, rfl, x, a.c_State, dy, _, rfl, upd_same, T.c_State, T.n_State_ashore, (by show 17 < 1000; decide), ?_⟩
    have e14 : putF "ashore" (.int r.ashore) (stF z t ⟨r.sz, [], r.hour, r.persons, r.uses, r.making, r.lgrey, r.lblack, r.fresh, r.grey, r.black, r.taken, r.used, r.ggone, r.bgone, 0, 0⟩) = stF z t ⟨r.sz, [], r.hour, r.persons, r.uses, r.making, r.lgrey, r.lblack, r.fresh, r.grey, r.black, r.taken, r.used, r.ggone, r.bgone, r.ashore, 0⟩ := rfl
    rw [upd_upd, e14]
    refine ⟨_, rfl, p, a.c_State, dx, _, _, rfl, R', T.c_State, T.n_State_lacked, rfl, _, rfl, x, a.c_State, dy, _, rfl, upd_same, T.c_State, T.n_State_lacked, (by show 17 < 1000; decide), ?_⟩
    have e15 : putF "lacked" (.int r.lacked) (stF z t ⟨r.sz, [], r.hour, r.persons, r.uses, r.making, r.lgrey, r.lblack, r.fresh, r.grey, r.black, r.taken, r.used, r.ggone, r.bgone, r.ashore, 0⟩) = stF z t ⟨r.sz, [], r.hour, r.persons, r.uses, r.making, r.lgrey, r.lblack, r.fresh, r.grey, r.black, r.taken, r.used, r.ggone, r.bgone, r.ashore, r.lacked⟩ := rfl
    rw [upd_upd, e15]
    refine ⟨_, rfl, ?_⟩
    have k2 : But x H1 (upd H1 x (.ins a.c_State dy (stF z t r))) := But.upd
    obtain ⟨dz, hz⟩ := R.sz
    refine h x _ nx ⟨dy, z, t, ps, upd_same, ⟨dz, k2 _ _ hz (ne_of hz S1.st sz_st)⟩, k2 _ _ R.tu (ne_of R.tu S1.st (by intro e; cases e)), LegsAt.but S1.st k2 R.lg⟩ fun b o hb => ?_
    exact k2 b o (s1 b o hb) (ne_of_none hb nx)
def sp_switches : Sp := fun vs H Q _ => ∃ (m g b : Int), vs = [.int m, .int g, .int b] ∧ Q (.int (m + 2 * g + 4 * b)) H
theorem ok_switches (T : Tx K mg a) : FnOk P w K mg base CX0 1 a.f_switches a.d_switches ["making", "grey", "black"] sp_switches := by
  refine T.F_switches.ok sc_switches (fun vs H Q E h => ?_) (fun cdv A outer s H vs Q E hr h => ?_)
  · obtain ⟨m, g, b, rfl, _⟩ := h
    rfl
  · obtain ⟨m, g, b, rfl, h⟩ := h
    refine ⟨_, (pss_one (ps_ret (pe_op op_add (pe_op op_add (pv 0) (pe_op op_mul pe_int (pv 1))) (pe_op op_mul pe_int (pv 2))))), ?_⟩
    exact ⟨_, rfl, _, rfl, _, _, rfl, rfl, .inl ⟨by decide, by decide⟩, _, _, rfl, rfl, _, rfl, _, _, rfl, rfl, .inl ⟨by decide, by decide⟩, _, _, rfl, rfl, h⟩
def sp_what_is_set (a : Ad) : Sp := fun vs H Q _ => ∃ (p : Addr) (r : Raw), vs = [.ref p] ∧ StateAt a H p r ∧ Q (.int (r.making + 2 * r.lgrey + 4 * r.lblack)) H
theorem ok_what_is_set (T : Tx K mg a) : FnOk P w K mg base CX0 2 a.f_what_is_set a.d_what_is_set ["state"] (sp_what_is_set a) := by
  refine T.F_what_is_set.ok sc_what_is_set (fun vs H Q E h => ?_) (fun cdv A outer s H vs Q E hr h => ?_)
  · obtain ⟨p, r, rfl, _⟩ := h
    rfl
  · obtain ⟨p, r, rfl, ⟨dx, z, t, ps, S⟩, h⟩ := h
    refine ⟨_, (pss_one (ps_ret (pe_call (ok_switches T) (hr.mono (by decide)) rfl T.m_switches T.F_switches.kp T.b_switches .nil pass0 (pa_cons (pe_fld (pv 0) rfl) (pa_cons (pe_fld (pv 0) rfl) (pa_cons (pe_fld (pv 0) rfl) pa_nil)))))), ?_⟩
    exact ⟨_, rfl, p, a.c_State, dx, _, _, rfl, S.st, T.c_State, T.n_State_making, rfl, _, rfl, p, a.c_State, dx, _, _, rfl, S.st, T.c_State, T.n_State_letting_grey, rfl, _, rfl, p, a.c_State, dx, _, _, rfl, S.st, T.c_State, T.n_State_letting_black, rfl, r.making, r.lgrey, r.lblack, rfl, h⟩
def sp_wanted (a : Ad) : Sp := fun vs H Q _ => ∃ (p : Addr) (r : Raw), vs = [.ref p] ∧ StateAt a H p r ∧ 0 ≤ r.persons ∧ r.persons ≤ 5000 ∧ Q (.int (r.persons * r.uses)) H
theorem ok_wanted (T : Tx K mg a) : FnOk P w K mg base CX0 1 a.f_wanted a.d_wanted ["state"] (sp_wanted a) := by
  refine T.F_wanted.ok sc_wanted (fun vs H Q E h => ?_) (fun cdv A outer s H vs Q E hr h => ?_)
  · obtain ⟨p, r, rfl, _⟩ := h
    rfl
  · obtain ⟨p, r, rfl, ⟨dx, z, t, ps, S⟩, h1, h2, h⟩ := h
    refine ⟨_, (pss_one (ps_ret (pe_op op_mul (pe_fld (pv 0) rfl) (pe_fld (pv 0) rfl)))), ?_⟩
    exact ⟨_, rfl, p, a.c_State, dx, _, _, rfl, S.st, T.c_State, T.n_State_persons, rfl, _, rfl, p, a.c_State, dx, _, _, rfl, S.st, T.c_State, T.n_State_uses, rfl, _, _, rfl, rfl, .inl ⟨by show -(2 ^ 64) < r.persons; omega, by show r.persons < 2 ^ 64; omega⟩, h⟩

/-! ### the way -/
def sp_way_end (a : Ad) : Sp := fun vs H Q _ => ∃ (t : Addr) (ps : List Addr) (l : List Leg), vs = [.ref t] ∧ H t = some (.tup (ps.map V.ref)) ∧ LegsAt a H 0 ps l ∧ Q (.int (Sh.endOf l : Nat)) H
theorem ok_way_end (T : Tx K mg a) : FnOk P w K mg base CX0 1 a.f_way_end a.d_way_end ["legs"] (sp_way_end a) := by
  refine T.F_way_end.ok sc_way_end (fun vs H Q E h => ?_) (fun cdv A outer s H vs Q E hr h => ?_)
  · obtain ⟨p, ps, l, rfl, _⟩ := h
    rfl
  · obtain ⟨p, ps, l, rfl, ht, hl, h⟩ := h
    refine ⟨_, (pss_cons (ps_if (pt_cmpR op_eq (pe_callB call_len_seq (by rfl) T.no_len PySem.boot_len (pa_cons (pv 0) pa_nil)) pe_int (nomark _)) (pss_one (ps_ret pe_int)) pss_nil)
      (pss_one (ps_ret (pe_fld (pe_ix ix_tup (pv 0) (pe_un un_neg pe_int) (fun _ _ => rfl)) rfl)))), ?_⟩
    refine ⟨_, rfl, p, _, rfl, .inr (SqT.of ht), rfl, _, rfl, ?_⟩
    have hn := hl.len
    refine ite2 (fun q => ?_) (fun q => ?_)
    · have e : ps.length = 0 := by simpa using q
      have : l = [] := List.length_eq_zero_iff.mp (by omega)
      subst this
      exact h
    · have e : ¬ ps.length = 0 := by simpa using q
      obtain ⟨ps', q', rfl⟩ : ∃ ps' q', ps = ps' ++ [q'] := ⟨_, _, (List.dropLast_concat_getLast (fun z => e (by rw [z]; rfl))).symm⟩
      have hg : (ps' ++ [q'])[ps'.length]? = some q' := by simp
      obtain ⟨x, hx, dg, hL⟩ := hl.get hg
      have e3 : l.take (ps'.length + 1) = l := List.take_of_length_le (by rw [← hn]; simp)
      rw [e3, Nat.zero_add] at hL
      refine ⟨_, rfl, 1, rfl, p, _, _, V.ref q', rfl, rfl, SqT.of ht, ?_, q', a.c_Leg, dg, _, _, rfl, hL, T.c_Leg, T.n_Leg_end, rfl, h⟩
      rw [List.map_append]
      exact atI_last _ _
def sp_leg_in (a : Ad) : Sp := fun vs H Q _ => ∃ (t : Addr) (ps : List Addr) (l : List Leg) (n : Nat), vs = [.ref t, .int n] ∧ H t = some (.tup (ps.map V.ref)) ∧ LegsAt a H 0 ps l ∧
  ∀ (q : Addr) (H' : Hp) (e : Int), Same H H' → LegAt a H' q e ((Km442.legAt l n).miles : Int) ((Km442.legAt l n).knots : Int) → Q (.ref q) H'
theorem legAt_before : ∀ {l : List Leg} {i n : Nat}, Sh.endOf (l.take i) ≤ n → Km442.legAt l n = Km442.legAt (l.drop i) (n - Sh.endOf (l.take i))
  | [], 0, n, h => rfl
  | [], i + 1, n, h => by simp [Sh.endOf, Km442.sum]
  | x :: l, 0, n, h => rfl
  | x :: l, i + 1, n, h => by
    rw [List.take_succ_cons, Sh.endOf_cons] at h
    rw [List.take_succ_cons, Sh.endOf_cons, List.drop_succ_cons]
    show (if n < x.hours then x else Km442.legAt l (n - x.hours)) = _
    rw [if_neg (by omega), legAt_before (l := l) (i := i) (by omega), Nat.sub_sub]
theorem ok_leg_in (T : Tx K mg a) : FnOk P w K mg base CX0 3 a.f_leg_in a.d_leg_in ["legs", "hour"] (sp_leg_in a) := by
  refine T.F_leg_in.ok sc_leg_in (fun vs H Q E h => ?_) (fun cdv A outer s H vs Q E hr h => ?_)
  · obtain ⟨p, ps, l, n, rfl, _⟩ := h
    rfl
  · obtain ⟨p, ps, l, n, rfl, ht, hl, h⟩ := h
    refine ⟨_, (pss_cons (ps_for PassesOwn.never rfl (pi_tup (pv 0)) (pg_name (i := 2) sc_leg_in.nd rfl (Or.inl rfl)) (pss_one (ps_if (pt_cmpR op_lt (pv 1) (pe_fld (pv 2) rfl) (nomark _)) (pss_one (ps_ret (pv 2))) pss_nil)))
      (pss_one (ps_ret (pe_make T.M_Leg (ok_Leg_init T) (hr.mono (by decide)) rfl T.m_Leg T.b_Leg_init .nil pass0 (pa_cons (pe_op op_add (pv 1) pe_int) (pa_cons pe_int (pa_cons pe_int pa_nil))))))), ?_⟩
    have hn := hl.len
    refine ⟨_, rfl, p, rfl, ⟨_, SqT.of ht⟩, for_tup (K := K) (a := p) (xs := ps.map V.ref) (fun i σ H' => H' = H ∧ (∃ v, σ = [some (.ref p), some (.int n), v]) ∧ Sh.endOf (l.take i) ≤ n) ⟨rfl, ⟨none, rfl⟩, Nat.zero_le _⟩ (fun i σ H' _ ⟨e, _, _⟩ => by rw [e]; exact SqT.of ht) ?_ ?_⟩
    · rintro i x σ H' hi ⟨rfl, ⟨v, rfl⟩, hb⟩
      obtain ⟨q, hq, rfl⟩ : ∃ q, ps[i]? = some q ∧ x = V.ref q := by
        rw [List.getElem?_map] at hi
        cases e : ps[i]? with
        | none => rw [e] at hi; cases hi
        | some q => rw [e] at hi; exact ⟨q, rfl, (Option.some.inj hi).symm⟩
      obtain ⟨y, hy, dg, hL⟩ := hl.get hq
      rw [Nat.zero_add] at hL
      refine ⟨_, rfl, _, rfl, q, a.c_Leg, dg, _, _, rfl, hL, T.c_Leg, T.n_Leg_end, rfl, _, _, rfl, rfl, _, rfl, ?_⟩
      obtain ⟨hil, ey⟩ := List.getElem?_eq_some_iff.mp hy
      have et : l.take (i + 1) = l.take i ++ [y] := by rw [List.take_succ_eq_append_getElem hil, ey]
      have ed : l.drop i = y :: l.drop (i + 1) := by rw [List.drop_eq_getElem_cons hil, ey]
      rw [et, Sh.endOf_snoc] at hL ⊢
      refine ite2 (fun c => ?_) (fun c => ?_)
      · have c' : n < Sh.endOf (l.take i) + y.hours := by
          have := of_decide_eq_true c
          omega
        refine ⟨_, rfl, h q _ ((Sh.endOf (l.take i) + y.hours : Nat) : Int) (Same.refl _) ⟨dg, ?_⟩⟩
        have : Km442.legAt l n = y := by
          rw [legAt_before hb, ed]
          show (if n - Sh.endOf (l.take i) < y.hours then y else _) = y
          rw [if_pos (by omega)]
        rw [this]
        exact hL
      · have c' : ¬ n < Sh.endOf (l.take i) + y.hours := fun z => c (decide_eq_true (by omega))
        exact ⟨rfl, ⟨_, rfl⟩, by omega⟩
    · rintro σ H' ⟨rfl, ⟨v, rfl⟩, hb⟩
      refine ⟨_, rfl, _, _, rfl, rfl, ?_⟩
      intro x dy nx nd ne
      refine ⟨x, dy, _, _, _, rfl, upd_same, ⟨rfl, ?_⟩⟩
      rw [List.length_map, hn, List.take_length] at hb
      have e0 : Km442.legAt l n = ⟨0, 0, 0⟩ := by
        have := legAt_before (l := l) (i := l.length) (n := n) (by rw [List.take_length]; exact hb)
        rw [this, List.drop_length]
        rfl
      refine h x _ (n + 1) ?_ ⟨dy, ?_⟩
      · refine ((Same.upd (o := .own x) nd).trans (Same.upd (o := .ins a.c_Leg dy (lgF (n + 1) 0 0)) (by rw [upd_ne (Ne.symm ne)]; exact nx))).trans (fun b o hb => ?_)
        rw [upd_upd]
        exact hb
      · rw [e0]
        exact upd_same
def sp_in_port (a : Ad) : Sp := fun vs H Q _ => ∃ (p : Addr) (e m k : Int), vs = [.ref p] ∧ LegAt a H p e m k ∧ Q (.bl (decide (m = 0))) H
theorem ok_in_port (T : Tx K mg a) : FnOk P w K mg base CX0 1 a.f_in_port a.d_in_port ["leg"] (sp_in_port a) := by
  refine T.F_in_port.ok sc_in_port (fun vs H Q E h => ?_) (fun cdv A outer s H vs Q E hr h => ?_)
  · obtain ⟨p, e, m, k, rfl, _⟩ := h
    rfl
  · obtain ⟨p, e, m, k, rfl, ⟨dx, hp⟩, h⟩ := h
    refine ⟨_, (pss_one (ps_ret (pe_cmpR op_eq (pe_fld (pv 0) rfl) pe_int (nomark _)))), ?_⟩
    refine ⟨_, rfl, p, a.c_Leg, dx, _, _, rfl, hp, T.c_Leg, T.n_Leg_miles, rfl, rfl, ?_⟩
    have e1 : decide (V.int m = V.int 0) = decide (m = 0) := by
      by_cases q : m = 0
      · subst q; rfl
      · rw [decide_eq_false q, decide_eq_false (fun z => q (by injection z))]
    rw [e1]
    exact h
/-- 1 or 0 -/
def b01 (c : Bool) : Int := if c then 1 else 0
def sp_may_make (a : Ad) : Sp := fun vs H Q _ => ∃ (p : Addr) (e m k : Int), vs = [.ref p] ∧ LegAt a H p e m k ∧ Q (.int (b01 (decide (12 ≤ m)))) H
theorem ok_may_make (T : Tx K mg a) : FnOk P w K mg base CX0 1 a.f_may_make a.d_may_make ["leg"] (sp_may_make a) := by
  refine T.F_may_make.ok sc_may_make (fun vs H Q E h => ?_) (fun cdv A outer s H vs Q E hr h => ?_)
  · obtain ⟨p, e, m, k, rfl, _⟩ := h
    rfl
  · obtain ⟨p, e, m, k, rfl, ⟨dx, hp⟩, h⟩ := h
    refine ⟨_, pss_one (ps_ret (pe_ifExp (pt_cmpR op_ge (pe_fld (pv 0) rfl) (pk T.k_MAKING_MILES) (nomark _)) pe_int pe_int)), ?_⟩
    refine ⟨_, rfl, p, a.c_Leg, dx, _, _, rfl, hp, T.c_Leg, T.n_Leg_miles, rfl, _, _, rfl, rfl, _, rfl, ?_⟩
    refine ite2 (fun q => ?_) (fun q => ?_)
    · rw [show decide (12 ≤ m) = true from q] at h
      exact h
    · rw [show decide (12 ≤ m) = false from by simpa using q] at h
      exact h
def sp_may_let_grey (a : Ad) : Sp := fun vs H Q _ => ∃ (p : Addr) (e m k : Int), vs = [.ref p] ∧ LegAt a H p e m k ∧ Q (.int (b01 (decide (4 ≤ m) && decide (6 ≤ k)))) H
theorem ok_may_let_grey (T : Tx K mg a) : FnOk P w K mg base CX0 1 a.f_may_let_grey a.d_may_let_grey ["leg"] (sp_may_let_grey a) := by
  refine T.F_may_let_grey.ok sc_may_let_grey (fun vs H Q E h => ?_) (fun cdv A outer s H vs Q E hr h => ?_)
  · obtain ⟨p, e, m, k, rfl, _⟩ := h
    rfl
  · obtain ⟨p, e, m, k, rfl, ⟨dx, hp⟩, h⟩ := h
    refine ⟨_, pss_one (ps_ret (pe_ifExp (PW.pt (pw_and (pt_cmpR op_ge (pe_fld (pv 0) rfl) (pk T.k_GREY_MILES) (nomark _)) (pw_and1 (pt_cmpR op_ge (pe_fld (pv 0) rfl) (pk T.k_GREY_KNOTS) (nomark _))))) pe_int pe_int)), ?_⟩
    refine ⟨_, rfl, p, a.c_Leg, dx, _, _, rfl, hp, T.c_Leg, T.n_Leg_miles, rfl, _, _, rfl, rfl, _, rfl, ?_⟩
    refine ite2 (fun q => ?_) (fun q => ?_)
    · refine ⟨_, rfl, p, a.c_Leg, dx, _, _, rfl, hp, T.c_Leg, T.n_Leg_knots, rfl, _, _, rfl, rfl, _, rfl, ?_⟩
      rw [show decide (4 ≤ m) = true from q, Bool.true_and] at h
      refine ite2 (fun q2 => ?_) (fun q2 => ?_)
      · rw [show decide (6 ≤ k) = true from q2] at h
        exact h
      · rw [show decide (6 ≤ k) = false from by simpa using q2] at h
        exact h
    · refine iteF ?_
      rw [show decide (4 ≤ m) = false from by simpa using q] at h
      exact h
def sp_may_let_black (a : Ad) : Sp := fun vs H Q _ => ∃ (p : Addr) (e m k : Int), vs = [.ref p] ∧ LegAt a H p e m k ∧ Q (.int (b01 (decide (12 ≤ m) && decide (4 ≤ k)))) H
theorem ok_may_let_black (T : Tx K mg a) : FnOk P w K mg base CX0 1 a.f_may_let_black a.d_may_let_black ["leg"] (sp_may_let_black a) := by
  refine T.F_may_let_black.ok sc_may_let_black (fun vs H Q E h => ?_) (fun cdv A outer s H vs Q E hr h => ?_)
  · obtain ⟨p, e, m, k, rfl, _⟩ := h
    rfl
  · obtain ⟨p, e, m, k, rfl, ⟨dx, hp⟩, h⟩ := h
    refine ⟨_, pss_one (ps_ret (pe_ifExp (PW.pt (pw_and (pt_cmpR op_ge (pe_fld (pv 0) rfl) (pk T.k_BLACK_MILES) (nomark _)) (pw_and1 (pt_cmpR op_ge (pe_fld (pv 0) rfl) (pk T.k_BLACK_KNOTS) (nomark _))))) pe_int pe_int)), ?_⟩
    refine ⟨_, rfl, p, a.c_Leg, dx, _, _, rfl, hp, T.c_Leg, T.n_Leg_miles, rfl, _, _, rfl, rfl, _, rfl, ?_⟩
    refine ite2 (fun q => ?_) (fun q => ?_)
    · refine ⟨_, rfl, p, a.c_Leg, dx, _, _, rfl, hp, T.c_Leg, T.n_Leg_knots, rfl, _, _, rfl, rfl, _, rfl, ?_⟩
      rw [show decide (12 ≤ m) = true from q, Bool.true_and] at h
      refine ite2 (fun q2 => ?_) (fun q2 => ?_)
      · rw [show decide (4 ≤ k) = true from q2] at h
        exact h
      · rw [show decide (4 ≤ k) = false from by simpa using q2] at h
        exact h
    · refine iteF ?_
      rw [show decide (12 ≤ m) = false from by simpa using q] at h
      exact h
end
end Sp
end
section
set_option Elab.async false
set_option linter.all false
set_option maxRecDepth 100000
set_option maxHeartbeats 3900000
namespace Sp
open PySem PySem.Spec PyProof.Rows L2
open Km442 (Leg)
theorem min_if (i j : Int) : (if j < i then j else i) = min i j := by omega
theorem dec_int0 (m n : Int) : decide (V.int m = V.int n) = decide (m = n) := by
  by_cases q : m = n
  · subst q; simp
  · rw [decide_eq_false q, decide_eq_false (fun z => q (by injection z))]
/-- what goes in an hour: set, may, at most, there -/
def goI (on : Int) (may : Bool) (go have_ : Int) : Int := if on = 0 ∨ b01 may = 0 then 0 else min go have_
def mayG (m k : Int) : Bool := decide (4 ≤ m) && decide (6 ≤ k)
def mayB (m k : Int) : Bool := decide (12 ≤ m) && decide (4 ≤ k)
def mayM (m : Int) : Bool := decide (12 ≤ m)
section
variable {P : Program} {w : World} {K : PySem.W.Frag} {mg : Str → Option Value} {base : Heap} {a : Ad}
def sp_go (a : Ad) (f : Raw → Int → Int → Int) : Sp := fun vs H Q _ => ∃ (p q : Addr) (r : Raw) (e m k : Int), vs = [.ref p, .ref q] ∧ StateAt a H p r ∧ LegAt a H q e m k ∧ Q (.int (f r m k)) H
def greyGo (r : Raw) (m k : Int) : Int := goI r.lgrey (mayG m k) r.sz.greyGo r.grey
def blackGo (r : Raw) (m k : Int) : Int := goI r.lblack (mayB m k) r.sz.blackGo r.black
def madeNow (r : Raw) (m _k : Int) : Int := goI r.making (mayM m) r.sz.makes (r.sz.fresh - r.fresh)
theorem ok_grey_let_go (T : Tx K mg a) : FnOk P w K mg base CX0 2 a.f_grey_let_go a.d_grey_let_go ["state", "leg"] (sp_go a greyGo) := by
  refine T.F_grey_let_go.ok sc_grey_let_go (fun vs H Q E h => ?_) (fun cdv A outer s H vs Q E hr h => ?_)
  · obtain ⟨p, q, r, e, m, k, rfl, _⟩ := h
    rfl
  · obtain ⟨p, q, r, e, m, k, rfl, ⟨dx, z, t, ps, S⟩, L, h⟩ := h
    refine ⟨_, (pss_cons (ps_if (PW.pt (pw_or (pt_cmpR op_eq (pe_fld (pv 0) rfl) pe_int (nomark _)) (pw_or1 (pt_cmpR op_eq (pe_call (ok_may_let_grey T) (hr.mono (by decide)) rfl T.m_may_let_grey T.F_may_let_grey.kp T.b_may_let_grey .nil pass0 (pa_cons (pv 1) pa_nil)) pe_int (nomark _))))) (pss_one (ps_ret pe_int)) pss_nil)
      (pss_one (ps_ret (pe_callB (call_min2 rfl) (by rfl) T.no_min (by rfl) (pa_cons (pe_fld (pe_fld (pv 0) rfl) rfl) (pa_cons (pe_fld (pv 0) rfl) pa_nil)))))), ?_⟩
    obtain ⟨dz, hz⟩ := S.sz
    refine ⟨_, rfl, p, a.c_State, dx, _, _, rfl, S.st, T.c_State, T.n_State_letting_grey, rfl, rfl, _, rfl, ?_⟩
    unfold greyGo goI at h
    rw [dec_int0]
    refine ite2 (fun c => ?_) (fun c => ?_)
    · refine iteT ?_
      rw [if_pos (.inl (of_decide_eq_true c))] at h
      exact h
    · refine ⟨_, rfl, q, e, m, k, rfl, L, rfl, _, rfl, ?_⟩
      rw [dec_int0]
      refine ite2 (fun d => ?_) (fun d => ?_)
      · rw [if_pos (.inr (of_decide_eq_true d))] at h
        exact h
      · rw [if_neg (by intro y; rcases y with y | y; exact c (decide_eq_true y); exact d (decide_eq_true y)), ← min_if] at h
        exact ⟨_, rfl, p, a.c_State, dx, _, _, rfl, S.st, T.c_State, T.n_State_sizes, rfl, z, a.c_Sizes, dz, _, _, rfl, hz, T.c_Sizes, T.n_Sizes_grey_go, rfl, _, rfl, p, a.c_State, dx, _, _, rfl, S.st, T.c_State, T.n_State_grey, rfl, _, _, rfl, h⟩
theorem ok_black_let_go (T : Tx K mg a) : FnOk P w K mg base CX0 2 a.f_black_let_go a.d_black_let_go ["state", "leg"] (sp_go a blackGo) := by
  refine T.F_black_let_go.ok sc_black_let_go (fun vs H Q E h => ?_) (fun cdv A outer s H vs Q E hr h => ?_)
  · obtain ⟨p, q, r, e, m, k, rfl, _⟩ := h
    rfl
  · obtain ⟨p, q, r, e, m, k, rfl, ⟨dx, z, t, ps, S⟩, L, h⟩ := h
    refine ⟨_, (pss_cons (ps_if (PW.pt (pw_or (pt_cmpR op_eq (pe_fld (pv 0) rfl) pe_int (nomark _)) (pw_or1 (pt_cmpR op_eq (pe_call (ok_may_let_black T) (hr.mono (by decide)) rfl T.m_may_let_black T.F_may_let_black.kp T.b_may_let_black .nil pass0 (pa_cons (pv 1) pa_nil)) pe_int (nomark _))))) (pss_one (ps_ret pe_int)) pss_nil)
      (pss_one (ps_ret (pe_callB (call_min2 rfl) (by rfl) T.no_min (by rfl) (pa_cons (pe_fld (pe_fld (pv 0) rfl) rfl) (pa_cons (pe_fld (pv 0) rfl) pa_nil)))))), ?_⟩
    obtain ⟨dz, hz⟩ := S.sz
    refine ⟨_, rfl, p, a.c_State, dx, _, _, rfl, S.st, T.c_State, T.n_State_letting_black, rfl, rfl, _, rfl, ?_⟩
    unfold blackGo goI at h
    rw [dec_int0]
    refine ite2 (fun c => ?_) (fun c => ?_)
    · refine iteT ?_
      rw [if_pos (.inl (of_decide_eq_true c))] at h
      exact h
    · refine ⟨_, rfl, q, e, m, k, rfl, L, rfl, _, rfl, ?_⟩
      rw [dec_int0]
      refine ite2 (fun d => ?_) (fun d => ?_)
      · rw [if_pos (.inr (of_decide_eq_true d))] at h
        exact h
      · rw [if_neg (by intro y; rcases y with y | y; exact c (decide_eq_true y); exact d (decide_eq_true y)), ← min_if] at h
        exact ⟨_, rfl, p, a.c_State, dx, _, _, rfl, S.st, T.c_State, T.n_State_sizes, rfl, z, a.c_Sizes, dz, _, _, rfl, hz, T.c_Sizes, T.n_Sizes_black_go, rfl, _, rfl, p, a.c_State, dx, _, _, rfl, S.st, T.c_State, T.n_State_black, rfl, _, _, rfl, h⟩
theorem ok_water_made (T : Tx K mg a) : FnOk P w K mg base CX0 2 a.f_water_made a.d_water_made ["state", "leg"] (sp_go a madeNow) := by
  refine T.F_water_made.ok sc_water_made (fun vs H Q E h => ?_) (fun cdv A outer s H vs Q E hr h => ?_)
  · obtain ⟨p, q, r, e, m, k, rfl, _⟩ := h
    rfl
  · obtain ⟨p, q, r, e, m, k, rfl, ⟨dx, z, t, ps, S⟩, L, h⟩ := h
    refine ⟨_, (pss_cons (ps_if (PW.pt (pw_or (pt_cmpR op_eq (pe_fld (pv 0) rfl) pe_int (nomark _)) (pw_or1 (pt_cmpR op_eq (pe_call (ok_may_make T) (hr.mono (by decide)) rfl T.m_may_make T.F_may_make.kp T.b_may_make .nil pass0 (pa_cons (pv 1) pa_nil)) pe_int (nomark _))))) (pss_one (ps_ret pe_int)) pss_nil)
      (pss_one (ps_ret (pe_callB (call_min2 rfl) (by rfl) T.no_min (by rfl) (pa_cons (pe_fld (pe_fld (pv 0) rfl) rfl) (pa_cons (pe_op op_sub (pe_fld (pe_fld (pv 0) rfl) rfl) (pe_fld (pv 0) rfl)) pa_nil)))))), ?_⟩
    obtain ⟨dz, hz⟩ := S.sz
    refine ⟨_, rfl, p, a.c_State, dx, _, _, rfl, S.st, T.c_State, T.n_State_making, rfl, rfl, _, rfl, ?_⟩
    unfold madeNow goI at h
    rw [dec_int0]
    refine ite2 (fun c => ?_) (fun c => ?_)
    · refine iteT ?_
      rw [if_pos (.inl (of_decide_eq_true c))] at h
      exact h
    · refine ⟨_, rfl, q, e, m, k, rfl, L, rfl, _, rfl, ?_⟩
      rw [dec_int0]
      refine ite2 (fun d => ?_) (fun d => ?_)
      · rw [if_pos (.inr (of_decide_eq_true d))] at h
        exact h
      · rw [if_neg (by intro y; rcases y with y | y; exact c (decide_eq_true y); exact d (decide_eq_true y)), ← min_if] at h
        exact ⟨_, rfl, p, a.c_State, dx, _, _, rfl, S.st, T.c_State, T.n_State_sizes, rfl, z, a.c_Sizes, dz, _, _, rfl, hz, T.c_Sizes, T.n_Sizes_makes, rfl, _, rfl, p, a.c_State, dx, _, _, rfl, S.st, T.c_State, T.n_State_sizes, rfl, z, a.c_Sizes, dz, _, _, rfl, hz, T.c_Sizes, T.n_Sizes_fresh, rfl, _, rfl, p, a.c_State, dx, _, _, rfl, S.st, T.c_State, T.n_State_fresh, rfl, _, _, rfl, rfl, _, _, rfl, h⟩
def sp_grey_part : Sp := fun vs H Q _ => ∃ u : Int, vs = [.int u] ∧ Q (.int (u * 9 / 10)) H
theorem ok_grey_part (T : Tx K mg a) : FnOk P w K mg base CX0 1 a.f_grey_part a.d_grey_part ["used"] sp_grey_part := by
  refine T.F_grey_part.ok sc_grey_part (fun vs H Q E h => ?_) (fun cdv A outer s H vs Q E hr h => ?_)
  · obtain ⟨u, rfl, _⟩ := h
    rfl
  · obtain ⟨u, rfl, h⟩ := h
    refine ⟨_, (pss_one (ps_ret (pe_op op_fdiv (pe_op op_mul (pv 0) pe_int) pe_int))), ?_⟩
    exact ⟨_, rfl, _, _, rfl, rfl, .inr ⟨by decide, by decide⟩, _, _, rfl, rfl, ⟨by decide, by decide⟩, h⟩
/-- what is used: the tanks as they stand -/
def usedNow (r : Raw) : Int := min (min (r.persons * r.uses) r.fresh) (min ((10 * (r.sz.grey - r.grey) + 9) / 9) (10 * (r.sz.black - r.black)))
def sp_water_used (a : Ad) : Sp := fun vs H Q _ => ∃ (p : Addr) (r : Raw), vs = [.ref p] ∧ StateAt a H p r ∧ 0 ≤ r.persons ∧ r.persons ≤ 5000 ∧ Q (.int (usedNow r)) H
theorem ok_water_used (T : Tx K mg a) : FnOk P w K mg base CX0 2 a.f_water_used a.d_water_used ["state"] (sp_water_used a) := by
  refine T.F_water_used.ok sc_water_used (fun vs H Q E h => ?_) (fun cdv A outer s H vs Q E hr h => ?_)
  · obtain ⟨p, r, rfl, _⟩ := h
    rfl
  · obtain ⟨p, r, rfl, ⟨dx, z, t, ps, S⟩, h1, h2, h⟩ := h
    refine ⟨_, (pss_cons (ps_set (i := 1) sc_water_used.nd rfl (Or.inl rfl) (pe_op op_sub (pe_fld (pe_fld (pv 0) rfl) rfl) (pe_fld (pv 0) rfl)))
      (pss_cons (ps_set (i := 2) sc_water_used.nd rfl (Or.inl rfl) (pe_op op_sub (pe_fld (pe_fld (pv 0) rfl) rfl) (pe_fld (pv 0) rfl)))
      (pss_cons (ps_set (i := 3) sc_water_used.nd rfl (Or.inl rfl) (pe_op op_fdiv (pe_op op_add (pe_op op_mul pe_int (pv 1)) pe_int) pe_int))
      (pss_cons (ps_set (i := 4) sc_water_used.nd rfl (Or.inl rfl) (pe_op op_mul pe_int (pv 2)))
      (pss_one (ps_ret (pe_callB (call_min4 rfl) (by rfl) T.no_min (by rfl) (pa_cons (pe_call (ok_wanted T) (hr.mono (by decide)) rfl T.m_wanted T.F_wanted.kp T.b_wanted .nil pass0 (pa_cons (pv 0) pa_nil)) (pa_cons (pe_fld (pv 0) rfl) (pa_cons (pv 3) (pa_cons (pv 4) pa_nil))))))))))), ?_⟩
    obtain ⟨dz, hz⟩ := S.sz
    refine ⟨_, rfl, p, a.c_State, dx, _, _, rfl, S.st, T.c_State, T.n_State_sizes, rfl, z, a.c_Sizes, dz, _, _, rfl, hz, T.c_Sizes, T.n_Sizes_grey, rfl, _, rfl, p, a.c_State, dx, _, _, rfl, S.st, T.c_State, T.n_State_grey, rfl, _, _, rfl, rfl, ?_⟩
    refine ⟨_, rfl, p, a.c_State, dx, _, _, rfl, S.st, T.c_State, T.n_State_sizes, rfl, z, a.c_Sizes, dz, _, _, rfl, hz, T.c_Sizes, T.n_Sizes_black, rfl, _, rfl, p, a.c_State, dx, _, _, rfl, S.st, T.c_State, T.n_State_black, rfl, _, _, rfl, rfl, ?_⟩
    refine ⟨_, rfl, _, _, rfl, rfl, .inl ⟨by decide, by decide⟩, _, _, rfl, rfl, _, _, rfl, rfl, ⟨by decide, by decide⟩, ?_⟩
    refine ⟨_, rfl, _, _, rfl, rfl, .inl ⟨by decide, by decide⟩, ?_⟩
    exact ⟨_, rfl, p, r, rfl, ⟨dx, z, t, ps, S⟩, h1, h2, _, rfl, p, a.c_State, dx, _, _, rfl, S.st, T.c_State, T.n_State_fresh, rfl, _, rfl, _, rfl, _, _, _, _, rfl, h⟩

/-! ### an hour -/
def hg1 (r : Raw) (g : Int) : Raw := { r with grey := r.grey - g }
def hg2 (r : Raw) (g : Int) : Raw := { r with ggone := r.ggone + g }
def hg3 (r : Raw) (b : Int) : Raw := { r with black := r.black - b }
def hg4 (r : Raw) (b : Int) : Raw := { r with bgone := r.bgone + b }
def hr3 (r : Raw) (x : Int) : Raw := { r with fresh := r.fresh + x }
def hr4 (r : Raw) (x : Int) : Raw := { r with taken := r.taken + x }
def hr5 (r : Raw) (u : Int) : Raw := { r with fresh := r.fresh - u }
def hr6 (r : Raw) (g : Int) : Raw := { r with grey := r.grey + g }
def hr7 (r : Raw) (b : Int) : Raw := { r with black := r.black + b }
def hru (r : Raw) (u : Int) : Raw := { r with used := r.used + u }
def hr8 (r : Raw) (l : Int) : Raw := { r with lacked := r.lacked + l }
def hr9 (r : Raw) : Raw := { r with hour := r.hour + 1 }
def legOf (r : Raw) (n : Nat) : Leg := Km442.legAt r.legs n
def letG (r : Raw) (g b : Int) : Raw := hg4 (hg3 (hg2 (hg1 r g) g) b) b
def makeW (r : Raw) (x : Int) : Raw := hr4 (hr3 r x) x
theorem letG_p (r : Raw) (g b : Int) : (letG r g b).persons = r.persons := rfl
theorem makeW_p (r : Raw) (x : Int) : (makeW r x).persons = r.persons := rfl
def useW (r : Raw) (u g : Int) : Raw := hr8 (hru (hr7 (hr6 (hr5 r u) g) (u - g)) u) (r.persons * r.uses - u)
def hourA (r : Raw) (m k : Int) : Raw := letG r (greyGo r m k) (blackGo r m k)
def hourB (r : Raw) (m k : Int) : Raw := makeW r (madeNow r m k)
def hourU (r : Raw) : Raw := useW r (usedNow r) (usedNow r * 9 / 10)
def hourR (r : Raw) (m k : Int) : Raw := hr9 (hourU (hourB (hourA r m k) m k))
def sp_step (a : Ad) (f : Raw → Int → Int → Raw) : Sp := fun vs H Q _ => ∃ (p q : Addr) (r : Raw) (e m k : Int), vs = [.ref p, .ref q] ∧ StateAt a H p r ∧ LegAt a H q e m k ∧ ∀ H' : Hp, StateAt a H' p (f r m k) → But p H H' → Q .non H'
theorem ok_let_go (T : Tx K mg a) : FnOk P w K mg base CX0 3 a.f_let_go a.d_let_go ["state", "leg"] (sp_step a hourA) := by
  refine T.F_let_go.ok sc_let_go (fun vs H Q E h => ?_) (fun cdv A outer s H vs Q E hr h => ?_)
  · obtain ⟨p, q, r, e, m, k, rfl, _⟩ := h
    rfl
  · obtain ⟨p, q, r, e, m, k, rfl, ⟨dx, z, t, ps, S⟩, L, h⟩ := h
    refine ⟨_, (pss_cons (ps_set (i := 2) sc_let_go.nd rfl (Or.inl rfl) (pe_call (ok_grey_let_go T) (hr.mono (by decide)) rfl T.m_grey_let_go T.F_grey_let_go.kp T.b_grey_let_go .nil pass0 (pa_cons (pv 0) (pa_cons (pv 1) pa_nil))))
      (pss_cons (ps_set (i := 3) sc_let_go.nd rfl (Or.inl rfl) (pe_call (ok_black_let_go T) (hr.mono (by decide)) rfl T.m_black_let_go T.F_black_let_go.kp T.b_black_let_go .nil pass0 (pa_cons (pv 0) (pa_cons (pv 1) pa_nil))))
      (pss_cons (ps_fldaug (pv 0) (pv 2) in_sub)
      (pss_cons (ps_fldaug (pv 0) (pv 2) in_add)
      (pss_cons (ps_fldaug (pv 0) (pv 3) in_sub)
      (pss_one (ps_fldaug (pv 0) (pv 3) in_add))))))), ?_⟩
    unfold hourA at h
    refine ⟨_, rfl, _, rfl, p, q, r, e, m, k, rfl, ⟨dx, z, t, ps, S⟩, L, ?_⟩
    generalize greyGo r m k = g at h
    refine ⟨_, rfl, _, rfl, p, q, r, e, m, k, rfl, ⟨dx, z, t, ps, S⟩, L, ?_⟩
    generalize blackGo r m k = b at h
    have S1 := S.set (r' := hg1 r g)
    have S2 := S.set (r' := hg2 (hg1 r g) g)
    have S3 := S.set (r' := hg3 (hg2 (hg1 r g) g) b)
    have S4 := S.set (r' := letG r g b)
    refine ⟨_, rfl, p, a.c_State, dx, _, _, rfl, S.st, T.c_State, T.n_State_grey, rfl, _, rfl, _, _, rfl, rfl, dx, _, S.st, (by show 17 < 1000; decide), ?_⟩
    have e_S : putF "grey" (.int (r.grey - g)) (stF z t r) = stF z t (hg1 r g) := rfl
    rw [e_S]
    refine ⟨_, rfl, p, a.c_State, dx, _, _, rfl, S1.st, T.c_State, T.n_State_grey_gone, rfl, _, rfl, _, _, rfl, rfl, dx, _, S1.st, (by show 17 < 1000; decide), ?_⟩
    have e_S1 : putF "grey_gone" (.int ((hg1 r g).ggone + g)) (stF z t (hg1 r g)) = stF z t (hg2 (hg1 r g) g) := rfl
    rw [upd_upd, e_S1]
    refine ⟨_, rfl, p, a.c_State, dx, _, _, rfl, S2.st, T.c_State, T.n_State_black, rfl, _, rfl, _, _, rfl, rfl, dx, _, S2.st, (by show 17 < 1000; decide), ?_⟩
    have e_S2 : putF "black" (.int ((hg2 (hg1 r g) g).black - b)) (stF z t (hg2 (hg1 r g) g)) = stF z t (hg3 (hg2 (hg1 r g) g) b) := rfl
    rw [upd_upd, e_S2]
    refine ⟨_, rfl, p, a.c_State, dx, _, _, rfl, S3.st, T.c_State, T.n_State_black_gone, rfl, _, rfl, _, _, rfl, rfl, dx, _, S3.st, (by show 17 < 1000; decide), ?_⟩
    have e_S3 : putF "black_gone" (.int ((hg3 (hg2 (hg1 r g) g) b).bgone + b)) (stF z t (hg3 (hg2 (hg1 r g) g) b)) = stF z t (letG r g b) := rfl
    rw [upd_upd, e_S3]
    exact h _ ⟨dx, z, t, ps, S4⟩ But.upd
theorem ok_make_water (T : Tx K mg a) : FnOk P w K mg base CX0 3 a.f_make_water a.d_make_water ["state", "leg"] (sp_step a hourB) := by
  refine T.F_make_water.ok sc_make_water (fun vs H Q E h => ?_) (fun cdv A outer s H vs Q E hr h => ?_)
  · obtain ⟨p, q, r, e, m, k, rfl, _⟩ := h
    rfl
  · obtain ⟨p, q, r, e, m, k, rfl, ⟨dx, z, t, ps, S⟩, L, h⟩ := h
    refine ⟨_, (pss_cons (ps_set (i := 2) sc_make_water.nd rfl (Or.inl rfl) (pe_call (ok_water_made T) (hr.mono (by decide)) rfl T.m_water_made T.F_water_made.kp T.b_water_made .nil pass0 (pa_cons (pv 0) (pa_cons (pv 1) pa_nil))))
      (pss_cons (ps_fldaug (pv 0) (pv 2) in_add)
      (pss_one (ps_fldaug (pv 0) (pv 2) in_add)))), ?_⟩
    unfold hourB at h
    refine ⟨_, rfl, _, rfl, p, q, r, e, m, k, rfl, ⟨dx, z, t, ps, S⟩, L, ?_⟩
    generalize madeNow r m k = x at h
    have S1 := S.set (r' := hr3 r x)
    have S2 := S.set (r' := makeW r x)
    refine ⟨_, rfl, p, a.c_State, dx, _, _, rfl, S.st, T.c_State, T.n_State_fresh, rfl, _, rfl, _, _, rfl, rfl, dx, _, S.st, (by show 17 < 1000; decide), ?_⟩
    have e_S : putF "fresh" (.int (r.fresh + x)) (stF z t r) = stF z t (hr3 r x) := rfl
    rw [e_S]
    refine ⟨_, rfl, p, a.c_State, dx, _, _, rfl, S1.st, T.c_State, T.n_State_taken_in, rfl, _, rfl, _, _, rfl, rfl, dx, _, S1.st, (by show 17 < 1000; decide), ?_⟩
    have e_S1 : putF "taken_in" (.int ((hr3 r x).taken + x)) (stF z t (hr3 r x)) = stF z t (makeW r x) := rfl
    rw [upd_upd, e_S1]
    exact h _ ⟨dx, z, t, ps, S2⟩ But.upd
def sp_use (a : Ad) : Sp := fun vs H Q _ => ∃ (p : Addr) (r : Raw), vs = [.ref p] ∧ StateAt a H p r ∧ 0 ≤ r.persons ∧ r.persons ≤ 5000 ∧ ∀ H' : Hp, StateAt a H' p (hourU r) → But p H H' → Q .non H'
theorem ok_use_water (T : Tx K mg a) : FnOk P w K mg base CX0 3 a.f_use_water a.d_use_water ["state"] (sp_use a) := by
  refine T.F_use_water.ok sc_use_water (fun vs H Q E h => ?_) (fun cdv A outer s H vs Q E hr h => ?_)
  · obtain ⟨p, r, rfl, _⟩ := h
    rfl
  · obtain ⟨p, r, rfl, ⟨dx, z, t, ps, S⟩, h1, h2, h⟩ := h
    refine ⟨_, (pss_cons (ps_set (i := 1) sc_use_water.nd rfl (Or.inl rfl) (pe_call (ok_water_used T) (hr.mono (by decide)) rfl T.m_water_used T.F_water_used.kp T.b_water_used .nil pass0 (pa_cons (pv 0) pa_nil)))
      (pss_cons (ps_set (i := 2) sc_use_water.nd rfl (Or.inl rfl) (pe_call (ok_grey_part T) (hr.mono (by decide)) rfl T.m_grey_part T.F_grey_part.kp T.b_grey_part .nil pass0 (pa_cons (pv 1) pa_nil)))
      (pss_cons (ps_fldaug (pv 0) (pv 1) in_sub)
      (pss_cons (ps_fldaug (pv 0) (pv 2) in_add)
      (pss_cons (ps_fldaug (pv 0) (pe_op op_sub (pv 1) (pv 2)) in_add)
      (pss_cons (ps_fldaug (pv 0) (pv 1) in_add)
      (pss_one (ps_fldaug (pv 0) (pe_op op_sub (pe_call (ok_wanted T) (hr.mono (by decide)) rfl T.m_wanted T.F_wanted.kp T.b_wanted .nil pass0 (pa_cons (pv 0) pa_nil)) (pv 1)) in_add)))))))), ?_⟩
    unfold hourU at h
    refine ⟨_, rfl, p, r, rfl, ⟨dx, z, t, ps, S⟩, h1, h2, ?_⟩
    generalize usedNow r = u at h
    refine ⟨_, rfl, u, rfl, ?_⟩
    generalize u * 9 / 10 = g at h
    have S5 := S.set (r' := hr5 r u)
    have S6 := S.set (r' := hr6 (hr5 r u) g)
    have S7 := S.set (r' := hr7 (hr6 (hr5 r u) g) (u - g))
    have S8 := S.set (r' := hru (hr7 (hr6 (hr5 r u) g) (u - g)) u)
    have S9 := S.set (r' := useW r u g)
    refine ⟨_, rfl, p, a.c_State, dx, _, _, rfl, S.st, T.c_State, T.n_State_fresh, rfl, _, rfl, _, _, rfl, rfl, dx, _, S.st, (by show 17 < 1000; decide), ?_⟩
    have e_S : putF "fresh" (.int (r.fresh - u)) (stF z t r) = stF z t (hr5 r u) := rfl
    rw [e_S]
    refine ⟨_, rfl, p, a.c_State, dx, _, _, rfl, S5.st, T.c_State, T.n_State_grey, rfl, _, rfl, _, _, rfl, rfl, dx, _, S5.st, (by show 17 < 1000; decide), ?_⟩
    have e_S5 : putF "grey" (.int ((hr5 r u).grey + g)) (stF z t (hr5 r u)) = stF z t (hr6 (hr5 r u) g) := rfl
    rw [upd_upd, e_S5]
    refine ⟨_, rfl, p, a.c_State, dx, _, _, rfl, S6.st, T.c_State, T.n_State_black, rfl, _, rfl, _, rfl, _, _, rfl, rfl, _, _, rfl, rfl, dx, _, S6.st, (by show 17 < 1000; decide), ?_⟩
    have e_S6 : putF "black" (.int ((hr6 (hr5 r u) g).black + (u - g))) (stF z t (hr6 (hr5 r u) g)) = stF z t (hr7 (hr6 (hr5 r u) g) (u - g)) := rfl
    rw [upd_upd, e_S6]
    refine ⟨_, rfl, p, a.c_State, dx, _, _, rfl, S7.st, T.c_State, T.n_State_used, rfl, _, rfl, _, _, rfl, rfl, dx, _, S7.st, (by show 17 < 1000; decide), ?_⟩
    have e_S7 : putF "used" (.int ((hr7 (hr6 (hr5 r u) g) (u - g)).used + u)) (stF z t (hr7 (hr6 (hr5 r u) g) (u - g))) = stF z t (hru (hr7 (hr6 (hr5 r u) g) (u - g)) u) := rfl
    rw [upd_upd, e_S7]
    refine ⟨_, rfl, p, a.c_State, dx, _, _, rfl, S8.st, T.c_State, T.n_State_lacked, rfl, _, rfl, p, hru (hr7 (hr6 (hr5 r u) g) (u - g)) u, rfl, ⟨dx, z, t, ps, S8⟩, h1, h2, _, rfl, _, _, rfl, rfl, _, _, rfl, rfl, dx, _, S8.st, (by show 17 < 1000; decide), ?_⟩
    have e_S8 : putF "lacked" (.int ((hru (hr7 (hr6 (hr5 r u) g) (u - g)) u).lacked + ((hru (hr7 (hr6 (hr5 r u) g) (u - g)) u).persons * (hru (hr7 (hr6 (hr5 r u) g) (u - g)) u).uses - u))) (stF z t (hru (hr7 (hr6 (hr5 r u) g) (u - g)) u)) = stF z t (useW r u g) := rfl
    rw [upd_upd, e_S8]
    exact h _ ⟨dx, z, t, ps, S9⟩ But.upd
def sp_pass_hour (a : Ad) : Sp := fun vs H Q _ => ∃ (p : Addr) (r : Raw) (n : Nat), vs = [.ref p] ∧ StateAt a H p r ∧ r.hour = n ∧ 0 ≤ r.persons ∧ r.persons ≤ 5000 ∧
  ∀ H' : Hp, StateAt a H' p (hourR r (legOf r n).miles (legOf r n).knots) → But p H H' → Q .non H'
theorem ok_pass_hour (T : Tx K mg a) : FnOk P w K mg base CX0 4 a.f_pass_hour a.d_pass_hour ["state"] (sp_pass_hour a) := by
  refine T.F_pass_hour.ok sc_pass_hour (fun vs H Q E h => ?_) (fun cdv A outer s H vs Q E hr h => ?_)
  · obtain ⟨p, r, n, rfl, _⟩ := h
    rfl
  · obtain ⟨p, r, n, rfl, ⟨dx, z, t, ps, S⟩, hn, h1, h2, h⟩ := h
    refine ⟨_, (pss_cons (ps_set (i := 1) sc_pass_hour.nd rfl (Or.inl rfl) (pe_call (ok_leg_in T) (hr.mono (by decide)) rfl T.m_leg_in T.F_leg_in.kp T.b_leg_in .nil pass0 (pa_cons (pe_fld (pv 0) rfl) (pa_cons (pe_fld (pv 0) rfl) pa_nil))))
      (pss_cons (ps_expr (pe_call (ok_let_go T) (hr.mono (by decide)) rfl T.m_let_go T.F_let_go.kp T.b_let_go .nil pass0 (pa_cons (pv 0) (pa_cons (pv 1) pa_nil))))
      (pss_cons (ps_expr (pe_call (ok_make_water T) (hr.mono (by decide)) rfl T.m_make_water T.F_make_water.kp T.b_make_water .nil pass0 (pa_cons (pv 0) (pa_cons (pv 1) pa_nil))))
      (pss_cons (ps_expr (pe_call (ok_use_water T) (hr.mono (by decide)) rfl T.m_use_water T.F_use_water.kp T.b_use_water .nil pass0 (pa_cons (pv 0) pa_nil)))
      (pss_one (ps_fldaug (pv 0) pe_int in_add)))))), ?_⟩
    refine ⟨_, rfl, p, a.c_State, dx, _, _, rfl, S.st, T.c_State, T.n_State_legs, rfl, _, rfl, p, a.c_State, dx, _, _, rfl, S.st, T.c_State, T.n_State_hour, rfl, t, ps, r.legs, n, (by rw [hn]; rfl), S.tu, S.lg, fun q H1 e s1 L => ?_⟩
    have S0 := S.same s1
    obtain ⟨dl, hl⟩ := L
    have nq : q ≠ p := ne_of hl S0.st (lg_st (a := a))
    have h' : ∀ H', StateAt a H' p (hourR r ((Km442.legAt r.legs n).miles : Int) ((Km442.legAt r.legs n).knots : Int)) → But p H H' → Q .non H' := h
    generalize ((Km442.legAt r.legs n).miles : Int) = m at hl h'
    generalize ((Km442.legAt r.legs n).knots : Int) = k at hl h'
    unfold hourR at h'
    have ep : (hourB (hourA r m k) m k).persons = r.persons := (makeW_p _ _).trans (letG_p _ _ _)
    have h1' : 0 ≤ (hourB (hourA r m k) m k).persons := by rw [ep]; exact h1
    have h2' : (hourB (hourA r m k) m k).persons ≤ 5000 := by rw [ep]; exact h2
    refine ⟨_, rfl, _, rfl, p, q, r, e, m, k, rfl, ⟨dx, z, t, ps, S0⟩, ⟨dl, hl⟩, fun H2 S2 k2 => ?_⟩
    have hl2 := k2 _ _ hl nq
    generalize hourA r m k = ra at S2 h' h1' h2'
    refine ⟨_, rfl, _, rfl, p, q, ra, e, m, k, rfl, S2, ⟨dl, hl2⟩, fun H3 S3 k3 => ?_⟩
    generalize hourB ra m k = rb at S3 h' h1' h2'
    refine ⟨_, rfl, p, rb, rfl, S3, h1', h2', fun H4 S4 k4 => ?_⟩
    generalize hourU rb = rc at S4 h'
    obtain ⟨dx4, z4, t4, ps4, S4⟩ := S4
    have S5 := S4.set (r' := hr9 rc)
    refine ⟨_, rfl, p, a.c_State, dx4, _, _, rfl, S4.st, T.c_State, T.n_State_hour, rfl, _, _, rfl, rfl, dx4, _, S4.st, (by show 17 < 1000; decide), ?_⟩
    exact h' _ ⟨dx4, z4, t4, ps4, S5⟩ (((((But.of s1).trans k2).trans k3).trans k4).trans But.upd)
end
end Sp
end
section
set_option Elab.async false
set_option linter.all false
set_option maxRecDepth 100000
set_option maxHeartbeats 3900000
namespace Sp
open PySem PySem.Spec PyProof.Rows L2
open Km442 (Leg Ship mayMake mayGrey mayBlack greyOf goes bit)
open Sh (Good gN bN uN)
/-! ### the document's ship, as the program keeps it -/
def szOf (s : Ship) : Sz := ⟨s.freshMost, s.makes, s.greyMost, s.greyGo, s.blackMost, s.blackGo⟩
def rawOf (s : Ship) : Raw := ⟨szOf s, s.legs, s.hour, s.persons, s.uses, b01 s.making, b01 s.letGrey, b01 s.letBlack, s.fresh, s.grey, s.black, s.made, s.used, s.goneGrey, s.goneBlack, s.ashore, s.lacked⟩
theorem b01_0 (c : Bool) : b01 c = 0 ↔ c = false := by cases c <;> simp [b01]
theorem b01_bit (c : Bool) : b01 c = ((bit c : Nat) : Int) := by cases c <;> rfl
theorem may_grey (x : Leg) : mayG (x.miles : Int) (x.knots : Int) = mayGrey x := by
  unfold mayG mayGrey
  rw [show decide ((4 : Int) ≤ x.miles) = decide (4 ≤ x.miles) from decide_eq_decide.mpr (by omega), show decide ((6 : Int) ≤ x.knots) = decide (6 ≤ x.knots) from decide_eq_decide.mpr (by omega)]
theorem may_black (x : Leg) : mayB (x.miles : Int) (x.knots : Int) = mayBlack x := by
  unfold mayB mayBlack
  rw [show decide ((12 : Int) ≤ x.miles) = decide (12 ≤ x.miles) from decide_eq_decide.mpr (by omega), show decide ((4 : Int) ≤ x.knots) = decide (4 ≤ x.knots) from decide_eq_decide.mpr (by omega)]
theorem may_make (x : Leg) : mayM (x.miles : Int) = mayMake x := by
  unfold mayM mayMake
  exact decide_eq_decide.mpr (by omega)
theorem goI_eq (on may : Bool) (go have_ : Nat) : goI (b01 on) may (go : Int) (have_ : Int) = ((goes have_ go on may : Nat) : Int) := by
  unfold goI goes
  cases on <;> cases may <;> simp [b01] <;> omega
theorem hourR_parts (r : Raw) (m k g b x u : Int) (e1 : goI r.lgrey (mayG m k) r.sz.greyGo r.grey = g) (e2 : goI r.lblack (mayB m k) r.sz.blackGo r.black = b) (e3 : goI r.making (mayM m) r.sz.makes (r.sz.fresh - r.fresh) = x)
    (e4 : min (min (r.persons * r.uses) (r.fresh + x)) (min ((10 * (r.sz.grey - (r.grey - g)) + 9) / 9) (10 * (r.sz.black - (r.black - b)))) = u) :
    hourR r m k = ⟨r.sz, r.legs, r.hour + 1, r.persons, r.uses, r.making, r.lgrey, r.lblack, r.fresh + x - u, r.grey - g + u * 9 / 10, r.black - b + (u - u * 9 / 10), r.taken + x, r.used + u, r.ggone + g, r.bgone + b, r.ashore, r.lacked + (r.persons * r.uses - u)⟩ := by
  have A : hourA r m k = letG r g b := by
    unfold hourA greyGo blackGo
    rw [e1, e2]
  have B : hourB (hourA r m k) m k = makeW (letG r g b) x := by
    rw [A]
    unfold hourB madeNow
    show makeW (letG r g b) (goI r.making (mayM m) r.sz.makes (r.sz.fresh - r.fresh)) = _
    rw [e3]
  have U : usedNow (makeW (letG r g b) x) = u := by
    unfold usedNow makeW letG hr4 hr3 hg4 hg3 hg2 hg1
    dsimp only
    exact e4
  unfold hourR hourU
  rw [B, U]
  unfold useW makeW letG hr9 hr8 hru hr7 hr6 hr5 hr4 hr3 hg4 hg3 hg2 hg1
  dsimp only
theorem hour_rep {s : Ship} (h : Good s) : hourR (rawOf s) ((Km442.legAt s.legs s.hour).miles : Int) ((Km442.legAt s.legs s.hour).knots : Int) = rawOf s.hourly := by
  have g1 : gN s ≤ s.grey := Sh.goes_le _ _ _ _
  have b1 : bN s ≤ s.black := Sh.goes_le _ _ _ _
  have hf := h.fresh
  have m1 := Sh.makes_le s h
  have u1 := Sh.uN_le h
  have h1 := h.grey
  have h2 := h.black
  have hw : (s.persons : Int) * (s.uses : Int) = (s.wants : Int) := by
    unfold Km442.Ship.wants
    exact (Int.natCast_mul _ _).symm
  have e1 : goI (b01 s.letGrey) (mayG ((Km442.legAt s.legs s.hour).miles : Int) ((Km442.legAt s.legs s.hour).knots : Int)) (s.greyGo : Int) (s.grey : Int) = (gN s : Int) := by
    rw [may_grey, goI_eq]
    rfl
  have e2 : goI (b01 s.letBlack) (mayB ((Km442.legAt s.legs s.hour).miles : Int) ((Km442.legAt s.legs s.hour).knots : Int)) (s.blackGo : Int) (s.black : Int) = (bN s : Int) := by
    rw [may_black, goI_eq]
    rfl
  have e3 : goI (b01 s.making) (mayM ((Km442.legAt s.legs s.hour).miles : Int)) (s.makes : Int) ((s.freshMost : Int) - (s.fresh : Int)) = (s.makesNow : Int) := by
    rw [may_make, show (s.freshMost : Int) - (s.fresh : Int) = ((s.freshMost - s.fresh : Nat) : Int) by omega, goI_eq]
    unfold goes Km442.Ship.makesNow Km442.Ship.leg
    by_cases c : s.making = true ∧ mayMake (Km442.legAt s.legs s.hour) = true
    · rw [if_pos c, if_pos c, Nat.min_comm]
    · rw [if_neg c, if_neg c]
  have e4 : min (min ((s.persons : Int) * (s.uses : Int)) ((s.fresh : Int) + (s.makesNow : Int))) (min ((10 * ((s.greyMost : Int) - ((s.grey : Int) - (gN s : Int))) + 9) / 9) (10 * ((s.blackMost : Int) - ((s.black : Int) - (bN s : Int))))) = (uN s : Int) := by
    rw [hw, Sh.uN_eq h]
    omega
  have e := hourR_parts (rawOf s) _ _ (gN s : Int) (bN s : Int) (s.makesNow : Int) (uN s : Int) e1 e2 e3 e4
  rw [e, Sh.hourly_eq]
  have g9 : (uN s : Int) * 9 / 10 = ((greyOf (uN s) : Nat) : Int) := by
    unfold greyOf
    omega
  have g10 : greyOf (uN s) ≤ uN s := by
    unfold greyOf
    omega
  have w1 : uN s ≤ s.wants := u1.1
  have w2 : uN s ≤ s.fresh + s.makesNow := u1.2.1
  have a1 : (s.hour : Int) + 1 = ((s.hour + 1 : Nat) : Int) := by omega
  have a2 : (s.fresh : Int) + (s.makesNow : Int) - (uN s : Int) = ((s.fresh + s.makesNow - uN s : Nat) : Int) := by omega
  have a3 : (s.grey : Int) - (gN s : Int) + (uN s : Int) * 9 / 10 = ((s.grey - gN s + greyOf (uN s) : Nat) : Int) := by omega
  have a4 : (s.black : Int) - (bN s : Int) + ((uN s : Int) - (uN s : Int) * 9 / 10) = ((s.black - bN s + (uN s - greyOf (uN s)) : Nat) : Int) := by omega
  have a5 : (s.made : Int) + (s.makesNow : Int) = ((s.made + s.makesNow : Nat) : Int) := by omega
  have a6 : (s.lacked : Int) + ((s.persons : Int) * (s.uses : Int) - (uN s : Int)) = ((s.lacked + (s.wants - uN s) : Nat) : Int) := by
    rw [hw]
    omega
  have a7 : (s.used : Int) + (uN s : Int) = ((s.used + uN s : Nat) : Int) := by omega
  have a8 : (s.goneGrey : Int) + (gN s : Int) = ((s.goneGrey + gN s : Nat) : Int) := by omega
  have a9 : (s.goneBlack : Int) + (bN s : Int) = ((s.goneBlack + bN s : Nat) : Int) := by omega
  show (⟨szOf s, s.legs, (s.hour : Int) + 1, s.persons, s.uses, b01 s.making, b01 s.letGrey, b01 s.letBlack, (s.fresh : Int) + (s.makesNow : Int) - (uN s : Int), (s.grey : Int) - (gN s : Int) + (uN s : Int) * 9 / 10, (s.black : Int) - (bN s : Int) + ((uN s : Int) - (uN s : Int) * 9 / 10), (s.made : Int) + (s.makesNow : Int), (s.used : Int) + (uN s : Int), (s.goneGrey : Int) + (gN s : Int), (s.goneBlack : Int) + (bN s : Int), s.ashore, (s.lacked : Int) + ((s.persons : Int) * (s.uses : Int) - (uN s : Int))⟩ : Raw) = _
  rw [a1, a2, a3, a4, a5, a6, a7, a8, a9]
  rfl
section
variable {P : Program} {w : World} {K : PySem.W.Frag} {mg : Str → Option Value} {base : Heap} {a : Ad}
def sp_hour (a : Ad) : Sp := fun vs H Q _ => ∃ (p : Addr) (s : Ship), vs = [.ref p] ∧ StateAt a H p (rawOf s) ∧ Good s ∧ ∀ H' : Hp, StateAt a H' p (rawOf s.hourly) → But p H H' → Q .non H'
theorem ok_hour (T : Tx K mg a) : FnOk P w K mg base CX0 4 a.f_pass_hour a.d_pass_hour ["state"] (sp_hour a) := by
  refine (ok_pass_hour T).imp fun vs H Q E h => ?_
  obtain ⟨p, s, rfl, S, g, h⟩ := h
  refine ⟨p, rawOf s, s.hour, rfl, S, rfl, (by show (0 : Int) ≤ (s.persons : Int); omega), (by have := g.persons; show (s.persons : Int) ≤ 5000; omega), ?_⟩
  have e := hour_rep g
  unfold legOf
  show ∀ H', StateAt a H' p (hourR (rawOf s) ((Km442.legAt s.legs s.hour).miles : Int) ((Km442.legAt s.legs s.hour).knots : Int)) → _
  rw [e]
  exact h
def sp_pass_hours (a : Ad) : Sp := fun vs H Q _ => ∃ (p : Addr) (s : Ship) (n : Nat), vs = [.ref p, .int n] ∧ StateAt a H p (rawOf s) ∧ Good s ∧ n ≤ 500 ∧ ∀ H' : Hp, StateAt a H' p (rawOf (s.hours n)) → But p H H' → Q .non H'
theorem ok_pass_hours (T : Tx K mg a) : FnOk P w K mg base CX0 5 a.f_pass_hours a.d_pass_hours ["state", "n"] (sp_pass_hours a) := by
  refine T.F_pass_hours.ok sc_pass_hours (fun vs H Q E h => ?_) (fun cdv A outer s H vs Q E hr h => ?_)
  · obtain ⟨p, r, n, rfl, _⟩ := h
    rfl
  · obtain ⟨p, r, n, rfl, S, g, hn, h⟩ := h
    refine ⟨_, (pss_one (ps_for PassesOwn.never rfl (pi_range1 rfl T.no_range (pa_cons (pv 1) pa_nil)) (pg_name (i := 2) sc_pass_hours.nd rfl (Or.inl rfl)) (pss_one (ps_expr (pe_call (ok_hour T) (hr.mono (by decide)) rfl T.m_pass_hour T.F_pass_hour.kp T.b_pass_hour .nil pass0 (pa_cons (pv 0) pa_nil)))))), ?_⟩
    refine ⟨_, rfl, n, rfl, (by omega), (by omega), for_range (n := (n : Int).toNat) (fun i σ H' => (∃ v, σ = [some (.ref p), some (.int n), v]) ∧ StateAt a H' p (rawOf (r.hours i)) ∧ But p H H') ⟨⟨none, rfl⟩, S, But.refl _ _⟩ ?_ ?_⟩
    · rintro i σ H' hi ⟨⟨v, rfl⟩, S', k'⟩
      refine ⟨_, rfl, p, r.hours i, rfl, S', Sh.Good.hours i g, fun H2 S2 k2 => ⟨⟨_, rfl⟩, ?_, k'.trans k2⟩⟩
      rw [Sh.hours_snoc]
      exact S2
    · rintro σ H' ⟨⟨v, rfl⟩, S', k'⟩
      exact h H' S' k'
/-- what only asks: a new list -/
def spAsk (a : Ad) (f : Ship → List Int) : Sp := fun vs H Q _ => ∃ (p : Addr) (s : Ship), vs = [.ref p] ∧ StateAt a H p (rawOf s) ∧ Good s ∧ ∀ (q : Addr) (H' : Hp), Same H H' → H q = none → H' q = some (.lst ((f s).map V.int)) → Q (.ref q) H'
theorem ok_lasts (T : Tx K mg a) : FnOk P w K mg base CX0 5 a.f_lasts a.d_lasts ["state"] (spAsk a fun s => [(s.lasts : Int)]) := by
  refine T.F_lasts.ok sc_lasts (fun vs H Q E h => ?_) (fun cdv A outer s H vs Q E hr h => ?_)
  · obtain ⟨p, r, rfl, _⟩ := h
    rfl
  · obtain ⟨p, r, rfl, S, g, h⟩ := h
    refine ⟨_, (pss_cons (ps_set (i := 1) sc_lasts.nd rfl (Or.inl rfl) (pe_call (ok_copy_of T) (hr.mono (by decide)) rfl T.m_copy_of T.F_copy_of.kp T.b_copy_of .nil pass0 (pa_cons (pv 0) pa_nil)))
      (pss_cons (ps_for PassesOwn.never rfl (pi_range1 rfl T.no_range (pa_cons (pk T.k_MOST_HOURS_AHEAD) pa_nil)) (pg_name (i := 2) sc_lasts.nd rfl (Or.inl rfl)) (pss_cons (ps_expr (pe_call (ok_hour T) (hr.mono (by decide)) rfl T.m_pass_hour T.F_pass_hour.kp T.b_pass_hour .nil pass0 (pa_cons (pv 1) pa_nil)))
      (pss_one (ps_if (pt_cmpR op_gt (pe_fld (pv 1) rfl) (pe_fld (pv 0) rfl) (nomark _)) (pss_one (ps_ret (pe_lst (pa_cons (pv 2) pa_nil)))) pss_nil))))
      (pss_one (ps_ret (pe_lst (pa_cons (pk T.k_MOST_HOURS_AHEAD) pa_nil)))))), ?_⟩
    refine ⟨_, rfl, p, rawOf r, rfl, S, fun q H1 nq S1 s1 => ?_⟩
    obtain ⟨dx, z, t, ps, S0⟩ := S
    have npq : p ≠ q := ne_of_none S0.st nq
    refine ⟨500, rfl, (by decide), (by decide), for_range (n := (500 : Int).toNat) (fun i σ H' => (∃ v, σ = [some (.ref p), some (.ref q), v]) ∧ StateAt a H' q (rawOf (r.hours i)) ∧ Same H H' ∧ ∀ j, j ≤ i → (r.hours j).lacked = r.lacked) ⟨⟨none, rfl⟩, S1, s1, fun j hj => by rw [show j = 0 by omega]; rfl⟩ ?_ ?_⟩
    · rintro i σ H' hi ⟨⟨v, rfl⟩, S', k', hl⟩
      have hi' : i < 500 := hi
      refine ⟨_, rfl, q, r.hours i, rfl, S', Sh.Good.hours i g, fun H2 S2 k2 => ?_⟩
      have s2 : Same H H2 := fun b o e => k2 b o (k' b o e) (ne_of_none e nq)
      rw [← Sh.hours_snoc] at S2
      obtain ⟨dy, z2, t2, ps2, Q2⟩ := id S2
      refine ⟨_, rfl, q, a.c_State, dy, _, _, rfl, Q2.st, T.c_State, T.n_State_lacked, rfl, _, rfl, p, a.c_State, dx, _, _, rfl, s2 _ _ S0.st, T.c_State, T.n_State_lacked, rfl, _, _, rfl, rfl, _, rfl, ?_⟩
      have mono := Sh.hours_lacked r (i + 1)
      refine ite2 (fun c => ?_) (fun c => ?_)
      · have c' : r.lacked < (r.hours (i + 1)).lacked := by
          have := of_decide_eq_true c
          show r.lacked < _
          have e : (rawOf r).lacked < (rawOf (r.hours (i + 1))).lacked := this
          have e2 : (r.lacked : Int) < ((r.hours (i + 1)).lacked : Int) := e
          omega
        refine ⟨_, rfl, (by show 1 ≤ sizeLine; decide), fun l hl' => ?_⟩
        have e := Sh.lasts_stop r i hi' hl c'
        refine h l _ (s2.trans (Same.upd hl')) (s2.free hl') ?_
        show upd H2 l (HO.lst [V.int (0 + (i : Int))]) l = some (HO.lst [V.int (r.lasts : Int)])
        rw [e, upd_same, Int.zero_add]
      · have c' : (r.hours (i + 1)).lacked = r.lacked := by
          have e : ¬ (rawOf r).lacked < (rawOf (r.hours (i + 1))).lacked := fun z => c (decide_eq_true z)
          have e2 : ¬ (r.lacked : Int) < ((r.hours (i + 1)).lacked : Int) := e
          omega
        refine ⟨⟨_, rfl⟩, S2, s2, fun j hj => ?_⟩
        by_cases e : j = i + 1
        · rw [e]; exact c'
        · exact hl j (by omega)
    · rintro σ H' ⟨⟨v, rfl⟩, S', k', hl⟩
      refine ⟨(by show 1 ≤ sizeLine; decide), fun l hl' => ?_⟩
      have e := Sh.lasts_all r fun j hj => hl j hj
      refine h l _ (k'.trans (Same.upd hl')) (k'.free hl') ?_
      show upd H' l (HO.lst [V.int 500]) l = some (HO.lst [V.int (r.lasts : Int)])
      rw [e, upd_same]
      rfl
end
end Sp
end
section
set_option Elab.async false
set_option linter.all false
set_option maxRecDepth 100000
set_option maxHeartbeats 3900000
namespace Sp
open PySem PySem.Spec PyProof.Rows L2
open Km442 (Leg Ship mayMake mayGrey mayBlack greyOf goes bit)
open Sh (Good gN bN uN)
/-- in how many hours, and 1; 0: not within 500 -/
def nextOf (spec : Leg → Bool) (s : Ship) : Nat := match (List.range 501).find? fun n => spec (s.leg (s.hour + n)) with
  | some n => n + 1
  | none => 0
section
variable {P : Program} {w : World} {K : PySem.W.Frag} {mg : Str → Option Value} {base : Heap} {a : Ad}
def spMay (a : Ad) (f : Int → Int → Bool) : Sp := fun vs H Q _ => ∃ (p : Addr) (e m k : Int), vs = [.ref p] ∧ LegAt a H p e m k ∧ Q (.int (b01 (f m k))) H
def spFirst (a : Ad) (f : Addr) (spec : Leg → Bool) : Sp := fun vs H Q _ => ∃ (p : Addr) (s : Ship), vs = [.ref p, .ref f] ∧ StateAt a H p (rawOf s) ∧ ∀ H' : Hp, Same H H' → Q (.int (nextOf spec s)) H'
theorem ok_first_hour (T : Tx K mg a) {f : Addr} {fd : FuncData} {may : Int → Int → Bool} {spec : Leg → Bool} (G : FnOk P w K mg base CX0 1 f fd ["leg"] (spMay a may)) (kp : PySem.W.keepIn K (.ref f) = true) (b : Binds K fd ["leg"] []) (hs : ∀ x : Leg, may (x.miles : Int) (x.knots : Int) = spec x) :
    FnOk P w K mg base CX0 4 a.f_first_hour a.d_first_hour ["state", "may"] (spFirst a f spec) := by
  refine T.F_first_hour.ok sc_first_hour (fun vs H Q E h => ?_) (fun cdv A outer s H vs Q E hr h => ?_)
  · obtain ⟨p, r, rfl, _⟩ := h
    rfl
  · obtain ⟨p, r, rfl, ⟨dx, z, t, ps, S⟩, h⟩ := h
    refine ⟨_, (pss_cons (ps_for PassesOwn.never rfl (pi_range1 rfl T.no_range (pa_cons (pe_op op_add (pk T.k_MOST_HOURS_AHEAD) pe_int) pa_nil)) (pg_name (i := 2) sc_first_hour.nd rfl (Or.inl rfl)) (pss_one (ps_if (pt_cmpR op_eq (pe_callV 1 G (hr.mono (by decide)) kp b .nil pass0 (pa_cons (pe_call (ok_leg_in T) (hr.mono (by decide)) rfl T.m_leg_in T.F_leg_in.kp T.b_leg_in .nil pass0 (pa_cons (pe_fld (pv 0) rfl) (pa_cons (pe_op op_add (pe_fld (pv 0) rfl) (pv 2)) pa_nil))) pa_nil)) pe_int (nomark _)) (pss_one (ps_ret (pe_op op_add (pv 2) pe_int))) pss_nil)))
      (pss_one (ps_ret pe_int))), ?_⟩
    refine ⟨_, _, rfl, rfl, 501, rfl, (by decide), (by decide), for_range (n := (501 : Int).toNat) (fun i σ H' => (∃ v, σ = [some (.ref p), some (.ref f), v]) ∧ Same H H' ∧ ∀ j, j < i → spec (r.leg (r.hour + j)) = false) ⟨⟨none, rfl⟩, Same.refl _, fun j hj => absurd hj (Nat.not_lt_zero _)⟩ ?_ ?_⟩
    · rintro i σ H' hi ⟨⟨v, rfl⟩, k', hl⟩
      have hi' : i < 501 := hi
      have S' := S.same k'
      refine ⟨rfl, _, rfl, p, a.c_State, dx, _, _, rfl, S'.st, T.c_State, T.n_State_legs, rfl, _, rfl, p, a.c_State, dx, _, _, rfl, S'.st, T.c_State, T.n_State_hour, rfl, _, rfl, _, _, rfl, rfl, t, ps, r.legs, r.hour + i, ?_, S'.tu, S'.lg, fun q H1 e s1 L => ?_⟩
      · show [V.ref t, V.int ((r.hour : Int) + (0 + (i : Int)))] = [V.ref t, V.int ((r.hour + i : Nat) : Int)]
        rw [show (r.hour : Int) + (0 + (i : Int)) = ((r.hour + i : Nat) : Int) by omega]
      · refine ⟨q, e, _, _, rfl, L, rfl, _, rfl, ?_⟩
        rw [dec_int0, hs]
        have eL : Km442.legAt r.legs (r.hour + i) = r.leg (r.hour + i) := rfl
        rw [eL]
        refine ite2 (fun c => ?_) (fun c => ?_)
        · have c' : spec (r.leg (r.hour + i)) = true := by
            have := of_decide_eq_true c
            cases e : spec (r.leg (r.hour + i)) with
            | true => rfl
            | false => rw [e] at this; exact absurd this (by decide)
          refine ⟨_, rfl, _, _, rfl, rfl, ?_⟩
          have e1 : nextOf spec r = i + 1 := by
            unfold nextOf
            rw [Sh.find_range_some (p := fun n => spec (r.leg (r.hour + n))) hi' c' hl]
          have := h H1 (k'.trans s1)
          rw [e1] at this
          show Q (.int (0 + (i : Int) + 1)) H1
          rw [show 0 + (i : Int) + 1 = ((i + 1 : Nat) : Int) by omega]
          exact this
        · refine ⟨⟨_, rfl⟩, k'.trans s1, fun j hj => ?_⟩
          by_cases e : j = i
          · rw [e]
            cases e2 : spec (r.leg (r.hour + i)) with
            | false => rfl
            | true => rw [e2] at c; exact absurd rfl c
          · exact hl j (by omega)
    · rintro σ H' ⟨⟨v, rfl⟩, k', hl⟩
      have e1 : nextOf spec r = 0 := by
        unfold nextOf
        rw [Sh.find_range_none (n := 501) (p := fun n => spec (r.leg (r.hour + n))) hl]
      have := h H' k'
      rw [e1] at this
      exact this
def nextAns (s : Ship) : List Int := if nextOf mayGrey s = 0 ∧ nextOf mayBlack s = 0 then [-33] else [0, (nextOf mayGrey s : Int), (nextOf mayBlack s : Int)]
theorem ok_next_go (T : Tx K mg a) : FnOk P w K mg base CX0 5 a.f_next_go a.d_next_go ["state"] (spAsk a nextAns) := by
  have Gg : FnOk P w K mg base CX0 4 a.f_first_hour a.d_first_hour ["state", "may"] (spFirst a a.f_may_let_grey mayGrey) := ok_first_hour T (may := mayG) (ok_may_let_grey T) T.F_may_let_grey.kp T.b_may_let_grey may_grey
  have Gb : FnOk P w K mg base CX0 4 a.f_first_hour a.d_first_hour ["state", "may"] (spFirst a a.f_may_let_black mayBlack) := ok_first_hour T (may := mayB) (ok_may_let_black T) T.F_may_let_black.kp T.b_may_let_black may_black
  refine T.F_next_go.ok sc_next_go (fun vs H Q E h => ?_) (fun cdv A outer s H vs Q E hr h => ?_)
  · obtain ⟨p, r, rfl, _⟩ := h
    rfl
  · obtain ⟨p, r, rfl, S, g, h⟩ := h
    refine ⟨_, (pss_cons (ps_set (i := 1) sc_next_go.nd rfl (Or.inl rfl) (pe_call Gg (hr.mono (by decide)) rfl T.m_first_hour T.F_first_hour.kp T.b_first_hour .nil pass0 (pa_cons (pv 0) (pa_cons (pfn T.m_may_let_grey) pa_nil))))
      (pss_cons (ps_set (i := 2) sc_next_go.nd rfl (Or.inl rfl) (pe_call Gb (hr.mono (by decide)) rfl T.m_first_hour T.F_first_hour.kp T.b_first_hour .nil pass0 (pa_cons (pv 0) (pa_cons (pfn T.m_may_let_black) pa_nil))))
      (pss_cons (ps_if (PW.pt (pw_and (pt_cmpR op_eq (pv 1) pe_int (nomark _)) (pw_and1 (pt_cmpR op_eq (pv 2) pe_int (nomark _))))) (pss_one (ps_ret (pe_lst (pa_cons (pk T.k_NOT_SOON) pa_nil)))) pss_nil)
      (pss_one (ps_ret (pe_lst (pa_cons pe_int (pa_cons (pv 1) (pa_cons (pv 2) pa_nil))))))))), ?_⟩
    refine ⟨_, rfl, p, r, rfl, S, fun H1 s1 => ?_⟩
    refine ⟨_, rfl, p, r, rfl, S.same s1, fun H2 s2 => ?_⟩
    have s12 := s1.trans s2
    unfold nextAns at h
    generalize nextOf mayGrey r = x at h ⊢
    generalize nextOf mayBlack r = y at h ⊢
    have fin : ∀ (l : List Int), l.length ≤ 100 → (∀ (q : Addr) (H' : Hp), Same H H' → H q = none → H' q = some (.lst (l.map V.int)) → Q (.ref q) H') → (l.map V.int).length ≤ sizeLine ∧ ∀ p, H2 p = none → Q (.ref p) (upd H2 p (.lst (l.map V.int))) := fun l hl h => ⟨by rw [List.length_map]; exact Nat.le_trans hl (by decide), fun q hq => h q _ (s12.trans (Same.upd hq)) (s12.free hq) upd_same⟩
    refine ⟨_, rfl, rfl, _, rfl, ?_⟩
    rw [dec_int0]
    refine ite2 (fun c => ?_) (fun c => ?_)
    · refine ⟨_, rfl, rfl, _, rfl, ?_⟩
      rw [dec_int0]
      have c1 := of_decide_eq_true c
      refine ite2 (fun d => ?_) (fun d => ?_)
      · have d1 := of_decide_eq_true d
        rw [if_pos ⟨by omega, by omega⟩] at h
        exact fin _ (by simp) h
      · have d1 : ¬ (y : Int) = 0 := fun z => d (decide_eq_true z)
        rw [if_neg (by omega)] at h
        exact ⟨_, rfl, _, rfl, fin _ (by simp) h⟩
    · have c1 : ¬ (x : Int) = 0 := fun z => c (decide_eq_true z)
      rw [if_neg (by omega)] at h
      exact iteF ⟨_, rfl, _, rfl, fin _ (by simp) h⟩
theorem next_told (d : Km442.Desk) : nextAns d.now = Km442Neutral.told (Km442.act d .nextGo).2 := by
  have e1 : (d.now.nextGrey.isNone = true ↔ nextOf mayGrey d.now = 0) ∧ nextOf mayGrey d.now = (match d.now.nextGrey with | some n => n + 1 | none => 0) := by
    unfold nextOf Km442.Ship.nextGrey
    cases (List.range 501).find? fun n => mayGrey (d.now.leg (d.now.hour + n)) <;> simp
  have e2 : (d.now.nextBlack.isNone = true ↔ nextOf mayBlack d.now = 0) ∧ nextOf mayBlack d.now = (match d.now.nextBlack with | some n => n + 1 | none => 0) := by
    unfold nextOf Km442.Ship.nextBlack
    cases (List.range 501).find? fun n => mayBlack (d.now.leg (d.now.hour + n)) <;> simp
  unfold nextAns
  show _ = Km442Neutral.told (match d.now.nextGrey, d.now.nextBlack with
      | none, none => Km442.only (-33)
      | g, b => ⟨(0 : Int), [match g with
        | some n => n + 1
        | none => 0, match b with
        | some n => n + 1
        | none => 0]⟩)
  rw [e1.2, e2.2]
  cases d.now.nextGrey with
  | none =>
    cases d.now.nextBlack with
    | none => rfl
    | some n => rw [if_neg (by simp)]; rfl
  | some m => rw [if_neg (by simp)]; rfl
def mayAns (s : Ship) : List Int := [((bit (mayMake (s.leg s.hour)) + 2 * bit (mayGrey (s.leg s.hour)) + 4 * bit (mayBlack (s.leg s.hour)) : Nat) : Int), ((s.leg s.hour).miles : Int), ((s.leg s.hour).knots : Int)]
theorem ok_may_now (T : Tx K mg a) : FnOk P w K mg base CX0 4 a.f_may_now a.d_may_now ["state"] (spAsk a mayAns) := by
  refine T.F_may_now.ok sc_may_now (fun vs H Q E h => ?_) (fun cdv A outer s H vs Q E hr h => ?_)
  · obtain ⟨p, r, rfl, _⟩ := h
    rfl
  · obtain ⟨p, r, rfl, ⟨dx, z, t, ps, S⟩, g, h⟩ := h
    refine ⟨_, (pss_cons (ps_set (i := 1) sc_may_now.nd rfl (Or.inl rfl) (pe_call (ok_leg_in T) (hr.mono (by decide)) rfl T.m_leg_in T.F_leg_in.kp T.b_leg_in .nil pass0 (pa_cons (pe_fld (pv 0) rfl) (pa_cons (pe_fld (pv 0) rfl) pa_nil))))
      (pss_cons (ps_set (i := 2) sc_may_now.nd rfl (Or.inl rfl) (pe_call (ok_switches T) (hr.mono (by decide)) rfl T.m_switches T.F_switches.kp T.b_switches .nil pass0 (pa_cons (pe_call (ok_may_make T) (hr.mono (by decide)) rfl T.m_may_make T.F_may_make.kp T.b_may_make .nil pass0 (pa_cons (pv 1) pa_nil)) (pa_cons (pe_call (ok_may_let_grey T) (hr.mono (by decide)) rfl T.m_may_let_grey T.F_may_let_grey.kp T.b_may_let_grey .nil pass0 (pa_cons (pv 1) pa_nil)) (pa_cons (pe_call (ok_may_let_black T) (hr.mono (by decide)) rfl T.m_may_let_black T.F_may_let_black.kp T.b_may_let_black .nil pass0 (pa_cons (pv 1) pa_nil)) pa_nil)))))
      (pss_one (ps_ret (pe_lst (pa_cons (pv 2) (pa_cons (pe_fld (pv 1) rfl) (pa_cons (pe_fld (pv 1) rfl) pa_nil)))))))), ?_⟩
    refine ⟨_, rfl, p, a.c_State, dx, _, _, rfl, S.st, T.c_State, T.n_State_legs, rfl, _, rfl, p, a.c_State, dx, _, _, rfl, S.st, T.c_State, T.n_State_hour, rfl, t, ps, r.legs, r.hour, rfl, S.tu, S.lg, fun q H1 e s1 L => ?_⟩
    obtain ⟨dl, hl⟩ := id L
    refine ⟨_, rfl, q, e, _, _, rfl, L, _, rfl, q, e, _, _, rfl, L, _, rfl, q, e, _, _, rfl, L, _, _, _, rfl, ?_⟩
    refine ⟨_, rfl, _, rfl, q, a.c_Leg, dl, _, _, rfl, hl, T.c_Leg, T.n_Leg_miles, rfl, _, rfl, q, a.c_Leg, dl, _, _, rfl, hl, T.c_Leg, T.n_Leg_knots, rfl, (by show 3 ≤ sizeLine; decide), fun l hl' => ?_⟩
    refine h l _ (s1.trans (Same.upd hl')) (s1.free hl') ?_
    rw [upd_same]
    unfold mayAns
    have m1 := may_make (r.leg r.hour)
    have m2 := may_grey (r.leg r.hour)
    have m3 := may_black (r.leg r.hour)
    show some (HO.lst [V.int (b01 (mayM ((r.leg r.hour).miles : Int)) + 2 * b01 (mayG ((r.leg r.hour).miles : Int) ((r.leg r.hour).knots : Int)) + 4 * b01 (mayB ((r.leg r.hour).miles : Int) ((r.leg r.hour).knots : Int))), V.int ((r.leg r.hour).miles : Int), V.int ((r.leg r.hour).knots : Int)]) = _
    rw [m1, m2, m3, b01_bit, b01_bit, b01_bit]
    simp only [List.map_cons, List.map_nil, Int.natCast_add, Int.natCast_mul]
    rfl
def roomAns (s : Ship) : List Int := [((s.freshMost - s.fresh : Nat) : Int), ((s.greyMost - s.grey : Nat) : Int), ((s.blackMost - s.black : Nat) : Int)]
theorem ok_room (T : Tx K mg a) : FnOk P w K mg base CX0 1 a.f_room a.d_room ["state"] (spAsk a roomAns) := by
  refine T.F_room.ok sc_room (fun vs H Q E h => ?_) (fun cdv A outer s H vs Q E hr h => ?_)
  · obtain ⟨p, r, rfl, _⟩ := h
    rfl
  · obtain ⟨p, r, rfl, ⟨dx, z, t, ps, S⟩, g, h⟩ := h
    refine ⟨_, (pss_cons (ps_set (i := 1) sc_room.nd rfl (Or.inl rfl) (pe_fld (pv 0) rfl))
      (pss_one (ps_ret (pe_lst (pa_cons (pe_op op_sub (pe_fld (pv 1) rfl) (pe_fld (pv 0) rfl)) (pa_cons (pe_op op_sub (pe_fld (pv 1) rfl) (pe_fld (pv 0) rfl)) (pa_cons (pe_op op_sub (pe_fld (pv 1) rfl) (pe_fld (pv 0) rfl)) pa_nil))))))), ?_⟩
    obtain ⟨dz, hz⟩ := S.sz
    refine ⟨_, rfl, p, a.c_State, dx, _, _, rfl, S.st, T.c_State, T.n_State_sizes, rfl, ?_⟩
    refine ⟨_, rfl, z, a.c_Sizes, dz, _, _, rfl, hz, T.c_Sizes, T.n_Sizes_fresh, rfl, _, rfl, p, a.c_State, dx, _, _, rfl, S.st, T.c_State, T.n_State_fresh, rfl, _, _, rfl, rfl, ?_⟩
    refine ⟨_, rfl, z, a.c_Sizes, dz, _, _, rfl, hz, T.c_Sizes, T.n_Sizes_grey, rfl, _, rfl, p, a.c_State, dx, _, _, rfl, S.st, T.c_State, T.n_State_grey, rfl, _, _, rfl, rfl, ?_⟩
    refine ⟨_, rfl, z, a.c_Sizes, dz, _, _, rfl, hz, T.c_Sizes, T.n_Sizes_black, rfl, _, rfl, p, a.c_State, dx, _, _, rfl, S.st, T.c_State, T.n_State_black, rfl, _, _, rfl, rfl, (by show 3 ≤ sizeLine; decide), fun l hl' => ?_⟩
    refine h l _ (Same.upd hl') hl' ?_
    rw [upd_same]
    have h1 := g.fresh
    have h2 := g.grey
    have h3 := g.black
    unfold roomAns
    show some (HO.lst [V.int ((r.freshMost : Int) - (r.fresh : Int)), V.int ((r.greyMost : Int) - (r.grey : Int)), V.int ((r.blackMost : Int) - (r.black : Int))]) = _
    rw [show (r.freshMost : Int) - (r.fresh : Int) = ((r.freshMost - r.fresh : Nat) : Int) by omega, show (r.greyMost : Int) - (r.grey : Int) = ((r.greyMost - r.grey : Nat) : Int) by omega, show (r.blackMost : Int) - (r.black : Int) = ((r.blackMost - r.black : Nat) : Int) by omega]
    rfl
/-- what asks with a number -/
def spAskN (a : Ad) (f : Ship → Nat → List Int) : Sp := fun vs H Q _ => ∃ (p : Addr) (s : Ship) (n : Nat), vs = [.ref p, .int n] ∧ StateAt a H p (rawOf s) ∧ Good s ∧ ∀ (q : Addr) (H' : Hp), Same H H' → H q = none → H' q = some (.lst ((f s n).map V.int)) → Q (.ref q) H'
def aheadAns (s : Ship) (n : Nat) : List Int := if n = 0 ∨ 500 < n then [-22] else [((s.hours n).fresh : Int), ((s.hours n).grey : Int), ((s.hours n).black : Int), (((s.hours n).lacked - s.lacked : Nat) : Int)]
theorem ok_ahead (T : Tx K mg a) : FnOk P w K mg base CX0 6 a.f_ahead a.d_ahead ["state", "n"] (spAskN a aheadAns) := by
  refine T.F_ahead.ok sc_ahead (fun vs H Q E h => ?_) (fun cdv A outer s H vs Q E hr h => ?_)
  · obtain ⟨p, r, n, rfl, _⟩ := h
    rfl
  · obtain ⟨p, r, n, rfl, S, g, h⟩ := h
    refine ⟨_, (pss_cons (ps_if (PW.pt (pw_or (pt_cmpR op_lt (pv 1) pe_int (nomark _)) (pw_or1 (pt_cmpR op_gt (pv 1) (pk T.k_MOST_HOURS_AHEAD) (nomark _))))) (pss_one (ps_ret (pe_lst (pa_cons (pk T.k_WRONG_NUMBER) pa_nil)))) pss_nil)
      (pss_cons (ps_set (i := 2) sc_ahead.nd rfl (Or.inl rfl) (pe_call (ok_copy_of T) (hr.mono (by decide)) rfl T.m_copy_of T.F_copy_of.kp T.b_copy_of .nil pass0 (pa_cons (pv 0) pa_nil)))
      (pss_cons (ps_expr (pe_call (ok_pass_hours T) (hr.mono (by decide)) rfl T.m_pass_hours T.F_pass_hours.kp T.b_pass_hours .nil pass0 (pa_cons (pv 2) (pa_cons (pv 1) pa_nil))))
      (pss_one (ps_ret (pe_lst (pa_cons (pe_fld (pv 2) rfl) (pa_cons (pe_fld (pv 2) rfl) (pa_cons (pe_fld (pv 2) rfl) (pa_cons (pe_op op_sub (pe_fld (pv 2) rfl) (pe_fld (pv 0) rfl)) pa_nil)))))))))), ?_⟩
    unfold aheadAns at h
    have bad : (n = 0 ∨ 500 < n) → 1 ≤ sizeLine ∧ ∀ p, H p = none → Q (.ref p) (upd H p (.lst [V.int (-22)])) := fun c => by
      rw [if_pos c] at h
      exact ⟨by decide, fun q hq => h q _ (Same.upd hq) hq upd_same⟩
    refine ⟨_, rfl, _, _, rfl, rfl, _, rfl, ?_⟩
    refine ite2 (fun c => ?_) (fun c => ?_)
    · have c1 : (n : Int) < 1 := of_decide_eq_true c
      exact iteT (bad (by omega))
    · have c1 : ¬ (n : Int) < 1 := fun z => c (decide_eq_true z)
      refine ⟨_, rfl, _, _, rfl, rfl, _, rfl, ?_⟩
      refine ite2 (fun d => ?_) (fun d => ?_)
      · have d1 : (500 : Int) < n := of_decide_eq_true d
        exact bad (by omega)
      · have d1 : ¬ (500 : Int) < n := fun z => d (decide_eq_true z)
        rw [if_neg (by omega)] at h
        refine ⟨_, rfl, p, rawOf r, rfl, S, fun q H1 nq S1 s1 => ?_⟩
        refine ⟨_, rfl, _, rfl, q, r, n, rfl, S1, g, (by omega), fun H2 S2 k2 => ?_⟩
        have s2 : Same H H2 := fun b o e => k2 b o (s1 b o e) (ne_of_none e nq)
        obtain ⟨dx, z, t, ps, S⟩ := S
        obtain ⟨dy, z2, t2, ps2, Q2⟩ := S2
        refine ⟨_, rfl, q, a.c_State, dy, _, _, rfl, Q2.st, T.c_State, T.n_State_fresh, rfl, ?_⟩
        refine ⟨_, rfl, q, a.c_State, dy, _, _, rfl, Q2.st, T.c_State, T.n_State_grey, rfl, ?_⟩
        refine ⟨_, rfl, q, a.c_State, dy, _, _, rfl, Q2.st, T.c_State, T.n_State_black, rfl, ?_⟩
        refine ⟨_, rfl, q, a.c_State, dy, _, _, rfl, Q2.st, T.c_State, T.n_State_lacked, rfl, _, rfl, p, a.c_State, dx, _, _, rfl, s2 _ _ S.st, T.c_State, T.n_State_lacked, rfl, _, _, rfl, rfl, (by show 4 ≤ sizeLine; decide), fun l hl' => ?_⟩
        refine h l _ (s2.trans (Same.upd hl')) (s2.free hl') ?_
        rw [upd_same]
        have hl := Sh.hours_lacked r n
        show some (HO.lst [V.int ((r.hours n).fresh : Int), V.int ((r.hours n).grey : Int), V.int ((r.hours n).black : Int), V.int (((r.hours n).lacked : Int) - (r.lacked : Int))]) = _
        rw [show ((r.hours n).lacked : Int) - (r.lacked : Int) = (((r.hours n).lacked - r.lacked : Nat) : Int) by omega]
        rfl
end
end Sp
end
section
set_option Elab.async false
set_option linter.all false
set_option maxRecDepth 100000
set_option maxHeartbeats 3900000
namespace Sp
open PySem PySem.Spec PyProof.Rows L2
open Km442 (Leg Ship Desk Call mayMake mayGrey mayBlack greyOf goes bit act)
open Sh (Good GoodD gN bN uN)
/-! ### the changes, apart from what is kept of them -/
def chLeg (s : Ship) (h m k : Nat) : List Int × Option Ship := if h = 0 ∨ 500 < h ∨ 1000 < m ∨ 40 < k then ([-22], none) else if 10 ≤ s.legs.length then ([-28], none) else if s.end_ < s.hour then ([-16], none) else ([((s.end_ + h : Nat) : Int)], some { s with legs := s.legs ++ [⟨h, m, k⟩] })
def chPersons (s : Ship) (n u : Nat) : List Int × Option Ship := if 5000 < n ∨ 80 < u then ([-22], none) else ([((n * u : Nat) : Int), (s.persons : Int), (s.uses : Int)], some { s with persons := n, uses := u })
def chSet (s : Ship) (x g b : Nat) : List Int × Option Ship := if 1 < x ∨ 1 < g ∨ 1 < b then ([-22], none) else if s.making = (x == 1) ∧ s.letGrey = (g == 1) ∧ s.letBlack = (b == 1) then ([-17], none) else ([((bit s.making + 2 * bit s.letGrey + 4 * bit s.letBlack : Nat) : Int)], some { s with making := x == 1, letGrey := g == 1, letBlack := b == 1 })
def chBunker (s : Ship) (n : Nat) : List Int × Option Ship := if n = 0 then ([-22], none) else if (s.leg s.hour).miles ≠ 0 then ([-16], none) else if s.freshMost < s.fresh + n then ([-62], none) else if 1000000000 < s.made + n then ([-28], none) else ([((s.fresh + n : Nat) : Int)], some { s with fresh := s.fresh + n, made := s.made + n })
def chShore (s : Ship) (g b : Nat) : List Int × Option Ship := if g = 0 ∧ b = 0 then ([-22], none) else if (s.leg s.hour).miles ≠ 0 then ([-16], none) else if s.grey < g ∨ s.black < b then ([-12], none) else ([((s.grey - g : Nat) : Int), ((s.black - b : Nat) : Int)], some { s with grey := s.grey - g, black := s.black - b, ashore := s.ashore + g + b })
def chHours (s : Ship) (n : Nat) : List Int × Option Ship := if n = 0 ∨ 500 < n then ([-22], none) else if 10000 < s.hour + n then ([-75], none) else if 1000000000 < (s.hours n).made then ([-28], none) else ([((s.hours n).hour : Int), (((s.hours n).lacked - s.lacked : Nat) : Int), ((s.hours n).fresh : Int), ((s.hours n).grey : Int), ((s.hours n).black : Int)], some (s.hours n))
def chOf (s : Ship) : Call → List Int × Option Ship
  | .leg h m k => chLeg s h m k
  | .persons n u => chPersons s n u
  | .set_ x g b => chSet s x g b
  | .bunker n => chBunker s n
  | .shore g b => chShore s g b
  | .hours n => chHours s n
  | _ => ([], none)
def rP (r : Raw) (n : Int) : Raw := { r with persons := n }
def rU (r : Raw) (n : Int) : Raw := { r with uses := n }
def isCh : Call → Bool
  | .leg _ _ _ => true
  | .persons _ _ => true
  | .set_ _ _ _ => true
  | .bunker _ => true
  | .shore _ _ => true
  | .hours _ => true
  | _ => false
/-- what is made of a change -/
inductive Chg (d : Desk) : List Int × Option Ship → Desk → List Int → Prop
  | no (v : Int) (h : v < 0) : Chg d ([v], none) d [v]
  | yes (v : Int) (r : List Int) (s : Ship) (h : 0 ≤ v) (hl : r.length ≤ 10) : Chg d (v :: r, some s) (d.become s) (v :: r)
theorem chg_act (d : Desk) (c : Call) (hc : isCh c = true) : Chg d (chOf d.now c) (act d c).1 (Km442Neutral.told (act d c).2) := by
  cases c with
  | leg h m k =>
    show Chg d (chLeg d.now h m k) (ite (α := Desk × Km442.Ans) _ _ _).1 (Km442Neutral.told (ite (α := Desk × Km442.Ans) _ _ _).2)
    unfold chLeg
    by_cases c1 : h = 0 ∨ 500 < h ∨ 1000 < m ∨ 40 < k
    · rw [if_pos c1, if_pos c1]; exact .no _ (by decide)
    · rw [if_neg c1, if_neg c1]
      show Chg d (ite (10 ≤ d.now.legs.length) _ _) (ite (α := Desk × Km442.Ans) (10 ≤ d.now.legs.length) _ _).1 (Km442Neutral.told (ite (α := Desk × Km442.Ans) (10 ≤ d.now.legs.length) _ _).2)
      by_cases c2 : 10 ≤ d.now.legs.length
      · rw [if_pos c2, if_pos c2]; exact .no _ (by decide)
      · rw [if_neg c2, if_neg c2]
        by_cases c3 : d.now.end_ < d.now.hour
        · rw [if_pos c3, if_pos c3]; exact .no _ (by decide)
        · rw [if_neg c3, if_neg c3]; exact .yes _ _ _ (Int.natCast_nonneg _) (by simp)
  | persons n u =>
    show Chg d (chPersons d.now n u) (ite (α := Desk × Km442.Ans) _ _ _).1 (Km442Neutral.told (ite (α := Desk × Km442.Ans) _ _ _).2)
    unfold chPersons
    by_cases c1 : 5000 < n ∨ 80 < u
    · rw [if_pos c1, if_pos c1]; exact .no _ (by decide)
    · rw [if_neg c1, if_neg c1]; exact .yes _ _ _ (Int.natCast_nonneg _) (by simp)
  | set_ x g b =>
    show Chg d (chSet d.now x g b) (ite (α := Desk × Km442.Ans) _ _ _).1 (Km442Neutral.told (ite (α := Desk × Km442.Ans) _ _ _).2)
    unfold chSet
    by_cases c1 : 1 < x ∨ 1 < g ∨ 1 < b
    · rw [if_pos c1, if_pos c1]; exact .no _ (by decide)
    · rw [if_neg c1, if_neg c1]
      by_cases c2 : d.now.making = (x == 1) ∧ d.now.letGrey = (g == 1) ∧ d.now.letBlack = (b == 1)
      · rw [if_pos c2, if_pos c2]; exact .no _ (by decide)
      · rw [if_neg c2, if_neg c2]; exact .yes _ _ _ (Int.natCast_nonneg _) (by simp)
  | bunker n =>
    show Chg d (chBunker d.now n) (ite (α := Desk × Km442.Ans) _ _ _).1 (Km442Neutral.told (ite (α := Desk × Km442.Ans) _ _ _).2)
    unfold chBunker
    by_cases c1 : n = 0
    · rw [if_pos c1, if_pos c1]; exact .no _ (by decide)
    · rw [if_neg c1, if_neg c1]
      by_cases c2 : (d.now.leg d.now.hour).miles ≠ 0
      · rw [if_pos c2, if_pos c2]; exact .no _ (by decide)
      · rw [if_neg c2, if_neg c2]
        by_cases c3 : d.now.freshMost < d.now.fresh + n
        · rw [if_pos c3, if_pos c3]; exact .no _ (by decide)
        · rw [if_neg c3, if_neg c3]
          show Chg d (ite (1000000000 < d.now.made + n) _ _) (ite (α := Desk × Km442.Ans) (1000000000 < d.now.made + n) _ _).1 (Km442Neutral.told (ite (α := Desk × Km442.Ans) (1000000000 < d.now.made + n) _ _).2)
          by_cases c4 : 1000000000 < d.now.made + n
          · rw [if_pos c4, if_pos c4]; exact .no _ (by decide)
          · rw [if_neg c4, if_neg c4]; exact .yes _ _ _ (Int.natCast_nonneg _) (by simp)
  | shore g b =>
    show Chg d (chShore d.now g b) (ite (α := Desk × Km442.Ans) _ _ _).1 (Km442Neutral.told (ite (α := Desk × Km442.Ans) _ _ _).2)
    unfold chShore
    by_cases c1 : g = 0 ∧ b = 0
    · rw [if_pos c1, if_pos c1]; exact .no _ (by decide)
    · rw [if_neg c1, if_neg c1]
      by_cases c2 : (d.now.leg d.now.hour).miles ≠ 0
      · rw [if_pos c2, if_pos c2]; exact .no _ (by decide)
      · rw [if_neg c2, if_neg c2]
        by_cases c3 : d.now.grey < g ∨ d.now.black < b
        · rw [if_pos c3, if_pos c3]; exact .no _ (by decide)
        · rw [if_neg c3, if_neg c3]; exact .yes _ _ _ (Int.natCast_nonneg _) (by simp)
  | hours n =>
    show Chg d (chHours d.now n) (ite (α := Desk × Km442.Ans) _ _ _).1 (Km442Neutral.told (ite (α := Desk × Km442.Ans) _ _ _).2)
    unfold chHours
    by_cases c1 : n = 0 ∨ 500 < n
    · rw [if_pos c1, if_pos c1]; exact .no _ (by decide)
    · rw [if_neg c1, if_neg c1]
      show Chg d (ite (10000 < d.now.hour + n) _ _) (ite (α := Desk × Km442.Ans) (10000 < d.now.hour + n) _ _).1 (Km442Neutral.told (ite (α := Desk × Km442.Ans) (10000 < d.now.hour + n) _ _).2)
      by_cases c2 : 10000 < d.now.hour + n
      · rw [if_pos c2, if_pos c2]; exact .no _ (by decide)
      · rw [if_neg c2, if_neg c2]
        show Chg d (ite (1000000000 < (d.now.hours n).made) _ _) (ite (α := Desk × Km442.Ans) (1000000000 < (d.now.hours n).made) _ _).1 (Km442Neutral.told (ite (α := Desk × Km442.Ans) (1000000000 < (d.now.hours n).made) _ _).2)
        by_cases c3 : 1000000000 < (d.now.hours n).made
        · rw [if_pos c3, if_pos c3]; exact .no _ (by decide)
        · rw [if_neg c3, if_neg c3]; exact .yes _ _ _ (Int.natCast_nonneg _) (by simp)
  | _ => cases hc
/-- what a def that changes a state promises -/
def Prom (a : Ad) (H : Hp) (p : Addr) (r : List Int × Option Ship) (Q : VK) : Prop := ∀ (q : Addr) (H' : Hp), But p H H' → H q = none → H' q = some (.lst (r.1.map V.int)) → (∀ s', r.2 = some s' → StateAt a H' p (rawOf s')) → Q (.ref q) H'
theorem But.free {p q : Addr} {H H1 : Hp} {o : HO} (k : But p H H1) (hp : H1 p = some o) (n : H1 q = none) : H q = none := by
  cases e : H q with
  | none => rfl
  | some u =>
    have := k q u e (ne_of_none hp n).symm
    rw [n] at this
    cases this
theorem Prom.no {a : Ad} {H H1 : Hp} {p : Addr} {v : Int} {Q : VK} {o : HO} (h : Prom a H p ([v], none) Q) (k : But p H H1) (hp : H1 p = some o) : 1 ≤ sizeLine ∧ ∀ q, H1 q = none → Q (.ref q) (upd H1 q (.lst [V.int v])) :=
  ⟨by decide, fun q n => h q _ (k.trans (But.of (Same.upd n))) (k.free hp n) upd_same fun s' e => nomatch e⟩
theorem Prom.yes {a : Ad} {H H1 : Hp} {p : Addr} {l : List Int} {s : Ship} {Q : VK} (h : Prom a H p (l, some s) Q) (k : But p H H1) (S : StateAt a H1 p (rawOf s)) (hl : l.length ≤ 100) : (l.map V.int).length ≤ sizeLine ∧ ∀ q, H1 q = none → Q (.ref q) (upd H1 q (.lst (l.map V.int))) := by
  refine ⟨by rw [List.length_map]; exact Nat.le_trans hl (by decide), fun q n => ?_⟩
  obtain ⟨dx, z, t, ps, S0⟩ := id S
  exact h q _ (k.trans (But.of (Same.upd n))) (k.free S0.st n) upd_same fun s' e => by cases e; exact S.same (Same.upd n)
section
variable {P : Program} {w : World} {K : PySem.W.Frag} {mg : Str → Option Value} {base : Heap} {a : Ad}
def spCh1 (a : Ad) (c : Nat → Call) : Sp := fun vs H Q _ => ∃ (p : Addr) (s : Ship) (n : Nat), vs = [.ref p, .int n] ∧ StateAt a H p (rawOf s) ∧ Good s ∧ Prom a H p (chOf s (c n)) Q
def spCh2 (a : Ad) (c : Nat → Nat → Call) : Sp := fun vs H Q _ => ∃ (p : Addr) (s : Ship) (n m : Nat), vs = [.ref p, .int n, .int m] ∧ StateAt a H p (rawOf s) ∧ Good s ∧ Prom a H p (chOf s (c n m)) Q
def spCh3 (a : Ad) (c : Nat → Nat → Nat → Call) : Sp := fun vs H Q _ => ∃ (p : Addr) (s : Ship) (n m k : Nat), vs = [.ref p, .int n, .int m, .int k] ∧ StateAt a H p (rawOf s) ∧ Good s ∧ Prom a H p (chOf s (c n m k)) Q
theorem ok_add_leg (T : Tx K mg a) : FnOk P w K mg base CX0 3 a.f_add_leg a.d_add_leg ["state", "hours", "miles", "knots"] (spCh3 a .leg) := by
  refine T.F_add_leg.ok sc_add_leg (fun vs H Q E h => ?_) (fun cdv A outer s H vs Q E hr h => ?_)
  · obtain ⟨p, r, n, m, k, rfl, _⟩ := h
    rfl
  · obtain ⟨p, r, n, m, k, rfl, ⟨dx, z, t, ps, S⟩, g, h⟩ := h
    refine ⟨_, (pss_cons (ps_if (PW.pt (pw_or (pt_cmpR op_lt (pv 1) pe_int (nomark _)) (pw_or (pt_cmpR op_gt (pv 1) (pk T.k_MOST_LEG_HOURS) (nomark _)) (pw_or (pt_cmpR op_gt (pv 2) (pk T.k_MOST_MILES) (nomark _)) (pw_or1 (pt_cmpR op_gt (pv 3) (pk T.k_MOST_KNOTS) (nomark _))))))) (pss_one (ps_ret (pe_lst (pa_cons (pk T.k_WRONG_NUMBER) pa_nil)))) pss_nil)
      (pss_cons (ps_if (pt_cmpR op_ge (pe_callB call_len_seq (by rfl) T.no_len PySem.boot_len (pa_cons (pe_fld (pv 0) rfl) pa_nil)) (pk T.k_MOST_LEGS) (nomark _)) (pss_one (ps_ret (pe_lst (pa_cons (pk T.k_NO_MORE) pa_nil)))) pss_nil)
      (pss_cons (ps_if (pt_cmpR op_gt (pe_fld (pv 0) rfl) (pe_call (ok_way_end T) (hr.mono (by decide)) rfl T.m_way_end T.F_way_end.kp T.b_way_end .nil pass0 (pa_cons (pe_fld (pv 0) rfl) pa_nil)) (nomark _)) (pss_one (ps_ret (pe_lst (pa_cons (pk T.k_NOT_HERE) pa_nil)))) pss_nil)
      (pss_cons (ps_set (i := 4) sc_add_leg.nd rfl (Or.inl rfl) (pe_op op_add (pe_call (ok_way_end T) (hr.mono (by decide)) rfl T.m_way_end T.F_way_end.kp T.b_way_end .nil pass0 (pa_cons (pe_fld (pv 0) rfl) pa_nil)) (pv 1)))
      (pss_cons (ps_fld (pv 0) (pe_op op_snocT (pe_fld (pv 0) rfl) (pe_tup (pa_cons (pe_make T.M_Leg (ok_Leg_init T) (hr.mono (by decide)) rfl T.m_Leg T.b_Leg_init .nil pass0 (pa_cons (pv 4) (pa_cons (pv 2) (pa_cons (pv 3) pa_nil)))) pa_nil))) rfl)
      (pss_one (ps_ret (pe_lst (pa_cons (pv 4) pa_nil))))))))), ?_⟩
    have h : Prom a H p (chLeg r n m k) Q := h
    unfold chLeg at h
    have bad : (n = 0 ∨ 500 < n ∨ 1000 < m ∨ 40 < k) → 1 ≤ sizeLine ∧ ∀ q, H q = none → Q (.ref q) (upd H q (.lst [V.int (-22)])) := fun c => by
      rw [if_pos c] at h
      exact h.no (But.refl _ _) S.st
    refine ⟨_, rfl, _, _, rfl, rfl, _, rfl, ?_⟩
    refine ite2 (fun c => iteT (bad (by have : (n : Int) < 1 := of_decide_eq_true c; omega))) (fun c1 => ?_)
    refine ⟨_, rfl, _, _, rfl, rfl, _, rfl, ?_⟩
    refine ite2 (fun c => iteT (bad (by have : (500 : Int) < n := of_decide_eq_true c; omega))) (fun c2 => ?_)
    refine ⟨_, rfl, _, _, rfl, rfl, _, rfl, ?_⟩
    refine ite2 (fun c => iteT (bad (by have : (1000 : Int) < m := of_decide_eq_true c; omega))) (fun c3 => ?_)
    refine ⟨_, rfl, _, _, rfl, rfl, _, rfl, ?_⟩
    refine ite2 (fun c => bad (by have : (40 : Int) < k := of_decide_eq_true c; omega)) (fun c4 => ?_)
    have d1 : ¬ (n : Int) < 1 := fun z => c1 (decide_eq_true z)
    have d2 : ¬ (500 : Int) < n := fun z => c2 (decide_eq_true z)
    have d3 : ¬ (1000 : Int) < m := fun z => c3 (decide_eq_true z)
    have d4 : ¬ (40 : Int) < k := fun z => c4 (decide_eq_true z)
    rw [if_neg (by omega)] at h
    have hn := S.lg.len
    refine ⟨_, rfl, p, a.c_State, dx, _, _, rfl, S.st, T.c_State, T.n_State_legs, rfl, t, _, rfl, .inr (SqT.of S.tu), _, _, rfl, rfl, _, rfl, ?_⟩
    have hn' : ps.length = r.legs.length := hn
    refine ite2 (fun c => ?_) (fun c => ?_)
    · have c' : (10 : Int) ≤ ((ps.map V.ref).length : Int) := of_decide_eq_true c
      rw [List.length_map] at c'
      rw [if_pos (by omega)] at h
      exact h.no (But.refl _ _) S.st
    have c' : ¬ (10 : Int) ≤ ((ps.map V.ref).length : Int) := fun z => c (decide_eq_true z)
    rw [List.length_map] at c'
    rw [if_neg (by omega)] at h
    refine ⟨_, rfl, p, a.c_State, dx, _, _, rfl, S.st, T.c_State, T.n_State_hour, rfl, _, rfl, p, a.c_State, dx, _, _, rfl, S.st, T.c_State, T.n_State_legs, rfl, t, ps, r.legs, rfl, S.tu, S.lg, _, _, rfl, rfl, _, rfl, ?_⟩
    refine ite2 (fun e => ?_) (fun e => ?_)
    · have e' : ((Sh.endOf r.legs : Nat) : Int) < (r.hour : Int) := of_decide_eq_true e
      rw [if_pos (by rw [Sh.end_eq]; omega)] at h
      exact h.no (But.refl _ _) S.st
    have e' : ¬ ((Sh.endOf r.legs : Nat) : Int) < (r.hour : Int) := fun z => e (decide_eq_true z)
    rw [if_neg (by rw [Sh.end_eq]; omega)] at h
    refine ⟨_, rfl, p, a.c_State, dx, _, _, rfl, S.st, T.c_State, T.n_State_legs, rfl, t, ps, r.legs, rfl, S.tu, S.lg, _, rfl, _, _, rfl, rfl, ?_⟩
    refine ⟨_, rfl, p, a.c_State, dx, _, _, rfl, S.st, T.c_State, T.n_State_legs, rfl, _, rfl, _, rfl, _, rfl, ?_⟩
    intro x dy nx nd ne
    refine ⟨x, dy, _, _, _, rfl, upd_same, ⟨rfl, ?_⟩⟩
    rw [upd_upd]
    have s1 : Same H (upd (upd H dy (.own x)) x (.ins a.c_Leg dy (lgF (((Sh.endOf r.legs : Nat) : Int) + (n : Int)) (m : Int) (k : Int)))) := (Same.upd nd).trans (Same.upd (by rw [upd_ne (Ne.symm ne)]; exact nx))
    have L1 : LegAt a (upd (upd H dy (.own x)) x (.ins a.c_Leg dy (lgF (((Sh.endOf r.legs : Nat) : Int) + (n : Int)) (m : Int) (k : Int)))) x (((Sh.endOf r.legs : Nat) : Int) + (n : Int)) (m : Int) (k : Int) := ⟨dy, upd_same⟩
    show 1 ≤ sizeLine ∧ ∀ q, upd (upd H dy (.own x)) x (.ins a.c_Leg dy (lgF (((Sh.endOf r.legs : Nat) : Int) + (n : Int)) (m : Int) (k : Int))) q = none → _
    generalize upd (upd H dy (.own x)) x (.ins a.c_Leg dy (lgF (((Sh.endOf r.legs : Nat) : Int) + (n : Int)) (m : Int) (k : Int))) = H1 at s1 L1 ⊢
    refine ⟨by decide, fun b hb => ?_⟩
    have s2 : Same H1 (upd H1 b (.tup [V.ref x])) := Same.upd hb
    refine ⟨t, b, ps.map V.ref, V.ref x, rfl, rfl, SqT.of (s2 _ _ (s1 _ _ S.tu)), upd_same, (by rw [List.length_map, hn]; have := g.legs; show r.legs.length + 1 ≤ sizeLine; exact Nat.le_trans (Nat.succ_le_succ this) (by decide)), fun b' H3 s3 hb' => ?_⟩
    have s13 : Same H H3 := (s1.trans s2).trans s3
    have S3 := S.same s13
    have L3 := L1.same (s2.trans s3)
    refine ⟨_, rfl, p, a.c_State, dx, _, rfl, S3.st, T.c_State, T.n_State_legs, (by show 17 < 1000; decide), ?_⟩
    refine ⟨_, rfl, ?_⟩
    have k4 : But p H (upd H3 p (.ins a.c_State dx (stF z b' (rawOf { r with legs := r.legs ++ [⟨n, m, k⟩] })))) := (But.of s13).trans But.upd
    have S4 : StateAt a (upd H3 p (.ins a.c_State dx (stF z b' (rawOf { r with legs := r.legs ++ [⟨n, m, k⟩] })))) p (rawOf { r with legs := r.legs ++ [⟨n, m, k⟩] }) := by
      obtain ⟨dz, hz⟩ := S3.sz
      refine ⟨dx, z, b', ps ++ [x], upd_same, ⟨dz, ?_⟩, ?_, ?_⟩
      · rw [upd_ne (ne_of hz S3.st sz_st)]; exact hz
      · rw [upd_ne (ne_of hb' S3.st (by intro e; cases e)), hb', List.map_append]; rfl
      · refine LegsAt.but S3.st But.upd ?_
        refine LegsAt.snoc S3.lg ?_
        rw [Nat.zero_add]
        exact L3
    have := h.yes k4 S4 (by simp)
    rw [Sh.end_eq] at this
    exact this
theorem ok_set_persons (T : Tx K mg a) : FnOk P w K mg base CX0 2 a.f_set_persons a.d_set_persons ["state", "n", "uses"] (spCh2 a .persons) := by
  refine T.F_set_persons.ok sc_set_persons (fun vs H Q E h => ?_) (fun cdv A outer s H vs Q E hr h => ?_)
  · obtain ⟨p, r, n, m, rfl, _⟩ := h
    rfl
  · obtain ⟨p, r, n, m, rfl, ⟨dx, z, t, ps, S⟩, g, h⟩ := h
    refine ⟨_, (pss_cons (ps_if (PW.pt (pw_or (pt_cmpR op_gt (pv 1) (pk T.k_MOST_PERSONS) (nomark _)) (pw_or1 (pt_cmpR op_gt (pv 2) (pk T.k_MOST_USES) (nomark _))))) (pss_one (ps_ret (pe_lst (pa_cons (pk T.k_WRONG_NUMBER) pa_nil)))) pss_nil)
      (pss_cons (ps_set (i := 3) sc_set_persons.nd rfl (Or.inl rfl) (pe_lst (pa_cons (pe_fld (pv 0) rfl) (pa_cons (pe_fld (pv 0) rfl) pa_nil))))
      (pss_cons (ps_fld (pv 0) (pv 1) rfl)
      (pss_cons (ps_fld (pv 0) (pv 2) rfl)
      (pss_one (ps_ret (pe_op op_cat (pe_lst (pa_cons (pe_call (ok_wanted T) (hr.mono (by decide)) rfl T.m_wanted T.F_wanted.kp T.b_wanted .nil pass0 (pa_cons (pv 0) pa_nil)) pa_nil)) (pv 3)))))))), ?_⟩
    have h : Prom a H p (chPersons r n m) Q := h
    unfold chPersons at h
    have bad : (5000 < n ∨ 80 < m) → 1 ≤ sizeLine ∧ ∀ q, H q = none → Q (.ref q) (upd H q (.lst [V.int (-22)])) := fun c => by
      rw [if_pos c] at h
      exact h.no (But.refl _ _) S.st
    refine ⟨_, rfl, _, _, rfl, rfl, _, rfl, ?_⟩
    refine ite2 (fun c => iteT (bad (by have : (5000 : Int) < n := of_decide_eq_true c; omega))) (fun c1 => ?_)
    refine ⟨_, rfl, _, _, rfl, rfl, _, rfl, ?_⟩
    refine ite2 (fun c => bad (by have : (80 : Int) < m := of_decide_eq_true c; omega)) (fun c2 => ?_)
    have d1 : ¬ (5000 : Int) < n := fun z => c1 (decide_eq_true z)
    have d2 : ¬ (80 : Int) < m := fun z => c2 (decide_eq_true z)
    rw [if_neg (by omega)] at h
    refine ⟨_, rfl, p, a.c_State, dx, _, _, rfl, S.st, T.c_State, T.n_State_persons, rfl, _, rfl, p, a.c_State, dx, _, _, rfl, S.st, T.c_State, T.n_State_uses, rfl, (by show 2 ≤ sizeLine; decide), fun l hl => ?_⟩
    have s1 : Same H (upd H l (.lst [V.int r.persons, V.int r.uses])) := Same.upd hl
    have e1 : upd H l (.lst [V.int r.persons, V.int r.uses]) l = some (.lst [V.int r.persons, V.int r.uses]) := upd_same
    have S1 := S.same s1
    show tSeq _ _ _ _ (upd H l (.lst [V.int (r.persons : Int), V.int (r.uses : Int)]))
    generalize upd H l (.lst [V.int (r.persons : Int), V.int (r.uses : Int)]) = H1 at s1 e1 S1 ⊢
    have S2 := S1.set (r' := rP (rawOf r) n)
    have S3 := S1.set (r' := rawOf { r with persons := n, uses := m })
    have eR : rU (rP (rawOf r) n) m = rawOf { r with persons := n, uses := m } := rfl
    refine ⟨_, rfl, _, rfl, p, a.c_State, dx, _, rfl, S1.st, T.c_State, T.n_State_persons, (by show 17 < 1000; decide), ?_⟩
    refine ⟨_, rfl, _, rfl, p, a.c_State, dx, _, rfl, S2.st, T.c_State, T.n_State_uses, (by show 17 < 1000; decide), ?_⟩
    rw [upd_upd]
    have e3 : upd H1 p (.ins a.c_State dx (stF z t (rawOf { r with persons := n, uses := m }))) l = some (.lst [V.int r.persons, V.int r.uses]) := by rw [upd_ne (ne_of e1 S1.st (by intro e; cases e))]; exact e1
    have k3 : But p H (upd H1 p (.ins a.c_State dx (stF z t (rawOf { r with persons := n, uses := m })))) := (But.of s1).trans But.upd
    have e5 : putF "uses" (V.int (m : Int)) (stF z t (rP (rawOf r) n)) = stF z t (rawOf { r with persons := n, uses := m }) := rfl
    rw [e5]
    generalize upd H1 p (.ins a.c_State dx (stF z t (rawOf { r with persons := n, uses := m }))) = H3 at S3 e3 k3 ⊢
    refine ⟨_, rfl, p, rawOf { r with persons := n, uses := m }, rfl, ⟨dx, z, t, ps, S3⟩, (by show (0 : Int) ≤ (n : Int); omega), (by show (n : Int) ≤ 5000; omega), (by show 1 ≤ sizeLine; decide), fun q hq => ?_⟩
    have s4 : Same H3 (upd H3 q (.lst [V.int ((n : Int) * (m : Int))])) := Same.upd hq
    refine ⟨_, rfl, q, l, _, _, rfl, rfl, upd_same, s4 _ _ e3, (by show 1 + 2 ≤ sizeLine; decide), ?_⟩
    have := (h.yes (k3.trans (But.of s4)) (StateAt.same s4 ⟨dx, z, t, ps, S3⟩) (by simp)).2
    rw [show ((n * m : Nat) : Int) = (n : Int) * (m : Int) from Int.natCast_mul _ _] at this
    exact this
end
end Sp
end
section
set_option Elab.async false
set_option linter.all false
set_option maxRecDepth 100000
set_option maxHeartbeats 3900000
namespace Sp
open PySem PySem.Spec PyProof.Rows L2
open Km442 (Leg Ship Desk Call mayMake mayGrey mayBlack greyOf goes bit act)
open Sh (Good GoodD gN bN uN)
def rM (r : Raw) (n : Int) : Raw := { r with making := n }
def rA (r : Raw) (n : Int) : Raw := { r with ashore := r.ashore + n }
def rG (r : Raw) (n : Int) : Raw := { r with lgrey := n }
theorem b01_of {n : Nat} (h : ¬ 1 < n) : b01 (n == 1) = (n : Int) := by
  have : n = 0 ∨ n = 1 := by omega
  rcases this with rfl | rfl <;> rfl
theorem sw_inj {x g b : Nat} {p q r : Bool} (h1 : ¬ 1 < x) (h2 : ¬ 1 < g) (h3 : ¬ 1 < b) : ((x : Int) + 2 * (g : Int) + 4 * (b : Int) = b01 p + 2 * b01 q + 4 * b01 r) ↔ (p = (x == 1) ∧ q = (g == 1) ∧ r = (b == 1)) := by
  have hx : x = 0 ∨ x = 1 := by omega
  have hg : g = 0 ∨ g = 1 := by omega
  have hb : b = 0 ∨ b = 1 := by omega
  rcases hx with rfl | rfl <;> rcases hg with rfl | rfl <;> rcases hb with rfl | rfl <;> cases p <;> cases q <;> cases r <;> decide
section
variable {P : Program} {w : World} {K : PySem.W.Frag} {mg : Str → Option Value} {base : Heap} {a : Ad}
theorem ok_set_switches (T : Tx K mg a) : FnOk P w K mg base CX0 3 a.f_set_switches a.d_set_switches ["state", "making", "grey", "black"] (spCh3 a .set_) := by
  refine T.F_set_switches.ok sc_set_switches (fun vs H Q E h => ?_) (fun cdv A outer s H vs Q E hr h => ?_)
  · obtain ⟨p, r, n, m, k, rfl, _⟩ := h
    rfl
  · obtain ⟨p, r, n, m, k, rfl, ⟨dx, z, t, ps, S⟩, g, h⟩ := h
    refine ⟨_, (pss_cons (ps_if (PW.pt (pw_or (pt_cmpR op_gt (pv 1) pe_int (nomark _)) (pw_or (pt_cmpR op_gt (pv 2) pe_int (nomark _)) (pw_or1 (pt_cmpR op_gt (pv 3) pe_int (nomark _)))))) (pss_one (ps_ret (pe_lst (pa_cons (pk T.k_WRONG_NUMBER) pa_nil)))) pss_nil)
      (pss_cons (ps_set (i := 4) sc_set_switches.nd rfl (Or.inl rfl) (pe_call (ok_what_is_set T) (hr.mono (by decide)) rfl T.m_what_is_set T.F_what_is_set.kp T.b_what_is_set .nil pass0 (pa_cons (pv 0) pa_nil)))
      (pss_cons (ps_if (pt_cmpR op_eq (pe_call (ok_switches T) (hr.mono (by decide)) rfl T.m_switches T.F_switches.kp T.b_switches .nil pass0 (pa_cons (pv 1) (pa_cons (pv 2) (pa_cons (pv 3) pa_nil)))) (pv 4) (nomark _)) (pss_one (ps_ret (pe_lst (pa_cons (pk T.k_SO_ALREADY) pa_nil)))) pss_nil)
      (pss_cons (ps_fld (pv 0) (pv 1) rfl)
      (pss_cons (ps_fld (pv 0) (pv 2) rfl)
      (pss_cons (ps_fld (pv 0) (pv 3) rfl)
      (pss_one (ps_ret (pe_lst (pa_cons (pv 4) pa_nil)))))))))), ?_⟩
    have h : Prom a H p (chSet r n m k) Q := h
    unfold chSet at h
    have bad : (1 < n ∨ 1 < m ∨ 1 < k) → 1 ≤ sizeLine ∧ ∀ q, H q = none → Q (.ref q) (upd H q (.lst [V.int (-22)])) := fun c => by
      rw [if_pos c] at h
      exact h.no (But.refl _ _) S.st
    refine ⟨_, rfl, _, _, rfl, rfl, _, rfl, ?_⟩
    refine ite2 (fun c => iteT (bad (by have : (1 : Int) < n := of_decide_eq_true c; omega))) (fun c1 => ?_)
    refine ⟨_, rfl, _, _, rfl, rfl, _, rfl, ?_⟩
    refine ite2 (fun c => iteT (bad (by have : (1 : Int) < m := of_decide_eq_true c; omega))) (fun c2 => ?_)
    refine ⟨_, rfl, _, _, rfl, rfl, _, rfl, ?_⟩
    refine ite2 (fun c => bad (by have : (1 : Int) < k := of_decide_eq_true c; omega)) (fun c3 => ?_)
    have d1 : ¬ (1 : Int) < n := fun z => c1 (decide_eq_true z)
    have d2 : ¬ (1 : Int) < m := fun z => c2 (decide_eq_true z)
    have d3 : ¬ (1 : Int) < k := fun z => c3 (decide_eq_true z)
    rw [if_neg (by omega)] at h
    refine ⟨_, rfl, p, rawOf r, rfl, ⟨dx, z, t, ps, S⟩, ?_⟩
    refine ⟨_, rfl, _, rfl, _, rfl, _, _, _, rfl, _, rfl, rfl, _, rfl, ?_⟩
    rw [dec_int0]
    have key := sw_inj (x := n) (g := m) (b := k) (p := r.making) (q := r.letGrey) (r := r.letBlack) (by omega) (by omega) (by omega)
    refine ite2 (fun c => ?_) (fun c => ?_)
    · have c' : (n : Int) + 2 * (m : Int) + 4 * (k : Int) = b01 r.making + 2 * b01 r.letGrey + 4 * b01 r.letBlack := of_decide_eq_true c
      rw [if_pos (key.mp c')] at h
      exact h.no (But.refl _ _) S.st
    have c' : ¬ (n : Int) + 2 * (m : Int) + 4 * (k : Int) = b01 r.making + 2 * b01 r.letGrey + 4 * b01 r.letBlack := fun z => c (decide_eq_true z)
    rw [if_neg (fun z => c' (key.mpr z))] at h
    have S1 := S.set (r' := rM (rawOf r) n)
    have S2 := S.set (r' := rG (rM (rawOf r) n) m)
    have e4 : rawOf { r with making := n == 1, letGrey := m == 1, letBlack := k == 1 } = { rG (rM (rawOf r) n) m with lblack := (k : Int) } := by
      show (⟨szOf r, r.legs, r.hour, r.persons, r.uses, b01 (n == 1), b01 (m == 1), b01 (k == 1), r.fresh, r.grey, r.black, r.made, r.used, r.goneGrey, r.goneBlack, r.ashore, r.lacked⟩ : Raw) = _
      rw [b01_of (show ¬ 1 < n by omega), b01_of (show ¬ 1 < m by omega), b01_of (show ¬ 1 < k by omega)]
      rfl
    have S3 := S.set (r' := rawOf { r with making := n == 1, letGrey := m == 1, letBlack := k == 1 })
    refine ⟨_, rfl, _, rfl, p, a.c_State, dx, _, rfl, S.st, T.c_State, T.n_State_making, (by show 17 < 1000; decide), ?_⟩
    refine ⟨_, rfl, _, rfl, p, a.c_State, dx, _, rfl, S1.st, T.c_State, T.n_State_letting_grey, (by show 17 < 1000; decide), ?_⟩
    rw [upd_upd]
    refine ⟨_, rfl, _, rfl, p, a.c_State, dx, _, rfl, S2.st, T.c_State, T.n_State_letting_black, (by show 17 < 1000; decide), ?_⟩
    rw [upd_upd]
    refine ⟨_, rfl, ?_⟩
    have := h.yes But.upd ⟨dx, z, t, ps, S3⟩ (by simp)
    rw [e4] at this
    have eb : ((bit r.making + 2 * bit r.letGrey + 4 * bit r.letBlack : Nat) : Int) = b01 r.making + 2 * b01 r.letGrey + 4 * b01 r.letBlack := by
      rw [b01_bit, b01_bit, b01_bit]
      omega
    rw [eb] at this
    exact this
theorem ok_bunker (T : Tx K mg a) : FnOk P w K mg base CX0 4 a.f_bunker a.d_bunker ["state", "n"] (spCh1 a .bunker) := by
  refine T.F_bunker.ok sc_bunker (fun vs H Q E h => ?_) (fun cdv A outer s H vs Q E hr h => ?_)
  · obtain ⟨p, r, n, rfl, _⟩ := h
    rfl
  · obtain ⟨p, r, n, rfl, ⟨dx, z, t, ps, S⟩, g, h⟩ := h
    refine ⟨_, (pss_cons (ps_if (pt_cmpR op_eq (pv 1) pe_int (nomark _)) (pss_one (ps_ret (pe_lst (pa_cons (pk T.k_WRONG_NUMBER) pa_nil)))) pss_nil)
      (pss_cons (ps_if (pt_not (pt_val (pe_call (ok_in_port T) (hr.mono (by decide)) rfl T.m_in_port T.F_in_port.kp T.b_in_port .nil pass0 (pa_cons (pe_call (ok_leg_in T) (hr.mono (by decide)) rfl T.m_leg_in T.F_leg_in.kp T.b_leg_in .nil pass0 (pa_cons (pe_fld (pv 0) rfl) (pa_cons (pe_fld (pv 0) rfl) pa_nil))) pa_nil)))) (pss_one (ps_ret (pe_lst (pa_cons (pk T.k_NOT_HERE) pa_nil)))) pss_nil)
      (pss_cons (ps_if (pt_cmpR op_gt (pv 1) (pe_op op_sub (pe_fld (pe_fld (pv 0) rfl) rfl) (pe_fld (pv 0) rfl)) (nomark _)) (pss_one (ps_ret (pe_lst (pa_cons (pk T.k_NO_ROOM) pa_nil)))) pss_nil)
      (pss_cons (ps_if (pt_cmpR op_gt (pe_op op_add (pe_fld (pv 0) rfl) (pv 1)) (pk T.k_MOST_TAKEN_IN) (nomark _)) (pss_one (ps_ret (pe_lst (pa_cons (pk T.k_NO_MORE) pa_nil)))) pss_nil)
      (pss_cons (ps_fldaug (pv 0) (pv 1) in_add)
      (pss_cons (ps_fldaug (pv 0) (pv 1) in_add)
      (pss_one (ps_ret (pe_lst (pa_cons (pe_fld (pv 0) rfl) pa_nil)))))))))), ?_⟩
    have h : Prom a H p (chBunker r n) Q := h
    unfold chBunker at h
    refine ⟨_, rfl, rfl, _, rfl, ?_⟩
    rw [dec_int0]
    refine ite2 (fun c => ?_) (fun c1 => ?_)
    · have c' : (n : Int) = 0 := of_decide_eq_true c
      rw [if_pos (by omega)] at h
      exact h.no (But.refl _ _) S.st
    have d1 : ¬ (n : Int) = 0 := fun z => c1 (decide_eq_true z)
    rw [if_neg (by omega)] at h
    refine ⟨_, rfl, p, a.c_State, dx, _, _, rfl, S.st, T.c_State, T.n_State_legs, rfl, _, rfl, p, a.c_State, dx, _, _, rfl, S.st, T.c_State, T.n_State_hour, rfl, t, ps, r.legs, r.hour, rfl, S.tu, S.lg, fun q H1 e s1 L => ?_⟩
    refine ⟨q, e, _, _, rfl, L, _, rfl, ?_⟩
    have S1 := S.same s1
    have eL : Km442.legAt r.legs r.hour = r.leg r.hour := rfl
    rw [eL]
    refine ite2 (fun c => ?_) (fun c => ?_)
    · have c' : (r.leg r.hour).miles ≠ 0 := fun z => by
        rw [z] at c
        exact absurd c (by decide)
      rw [if_pos c'] at h
      exact h.no (But.of s1) S1.st
    have c' : ¬ (r.leg r.hour).miles ≠ 0 := fun z => c (by
      have : ¬ ((r.leg r.hour).miles : Int) = 0 := by omega
      rw [decide_eq_false this]
      rfl)
    rw [if_neg c'] at h
    obtain ⟨dz, hz⟩ := S1.sz
    refine ⟨_, rfl, _, rfl, p, a.c_State, dx, _, _, rfl, S1.st, T.c_State, T.n_State_sizes, rfl, z, a.c_Sizes, dz, _, _, rfl, hz, T.c_Sizes, T.n_Sizes_fresh, rfl, _, rfl, p, a.c_State, dx, _, _, rfl, S1.st, T.c_State, T.n_State_fresh, rfl, _, _, rfl, rfl, _, _, rfl, rfl, _, rfl, ?_⟩
    refine ite2 (fun c => ?_) (fun c2 => ?_)
    · have c' : (r.freshMost : Int) - (r.fresh : Int) < (n : Int) := of_decide_eq_true c
      rw [if_pos (by omega)] at h
      exact h.no (But.of s1) S1.st
    have d2 : ¬ (r.freshMost : Int) - (r.fresh : Int) < (n : Int) := fun z => c2 (decide_eq_true z)
    have gf := g.fresh
    rw [if_neg (by omega)] at h
    refine ⟨_, rfl, p, a.c_State, dx, _, _, rfl, S1.st, T.c_State, T.n_State_taken_in, rfl, _, rfl, _, _, rfl, rfl, _, _, rfl, rfl, _, rfl, ?_⟩
    refine ite2 (fun c => ?_) (fun c3 => ?_)
    · have c' : (1000000000 : Int) < (r.made : Int) + (n : Int) := of_decide_eq_true c
      rw [if_pos (by omega)] at h
      exact h.no (But.of s1) S1.st
    have d3 : ¬ (1000000000 : Int) < (r.made : Int) + (n : Int) := fun z => c3 (decide_eq_true z)
    rw [if_neg (by omega)] at h
    have S2 := S1.set (r' := hr3 (rawOf r) n)
    have S3 := S1.set (r' := hr4 (hr3 (rawOf r) n) n)
    have e3 : hr4 (hr3 (rawOf r) n) n = rawOf { r with fresh := r.fresh + n, made := r.made + n } := by
      show (⟨szOf r, r.legs, r.hour, r.persons, r.uses, b01 r.making, b01 r.letGrey, b01 r.letBlack, (r.fresh : Int) + (n : Int), r.grey, r.black, (r.made : Int) + (n : Int), r.used, r.goneGrey, r.goneBlack, r.ashore, r.lacked⟩ : Raw) = _
      rw [← Int.natCast_add, ← Int.natCast_add]
      rfl
    refine ⟨_, rfl, p, a.c_State, dx, _, _, rfl, S1.st, T.c_State, T.n_State_fresh, rfl, _, rfl, _, _, rfl, rfl, dx, _, S1.st, (by show 17 < 1000; decide), ?_⟩
    refine ⟨_, rfl, p, a.c_State, dx, _, _, rfl, S2.st, T.c_State, T.n_State_taken_in, rfl, _, rfl, _, _, rfl, rfl, dx, _, S2.st, (by show 17 < 1000; decide), ?_⟩
    rw [upd_upd]
    refine ⟨_, rfl, p, a.c_State, dx, _, _, rfl, S3.st, T.c_State, T.n_State_fresh, rfl, ?_⟩
    rw [e3] at S3
    have := h.yes ((But.of s1).trans But.upd) ⟨dx, z, t, ps, S3⟩ (by simp)
    rw [← e3, Int.natCast_add] at this
    exact this
theorem ok_give_ashore (T : Tx K mg a) : FnOk P w K mg base CX0 4 a.f_give_ashore a.d_give_ashore ["state", "grey", "black"] (spCh2 a .shore) := by
  refine T.F_give_ashore.ok sc_give_ashore (fun vs H Q E h => ?_) (fun cdv A outer s H vs Q E hr h => ?_)
  · obtain ⟨p, r, n, m, rfl, _⟩ := h
    rfl
  · obtain ⟨p, r, n, m, rfl, ⟨dx, z, t, ps, S⟩, g, h⟩ := h
    refine ⟨_, (pss_cons (ps_if (PW.pt (pw_and (pt_cmpR op_eq (pv 1) pe_int (nomark _)) (pw_and1 (pt_cmpR op_eq (pv 2) pe_int (nomark _))))) (pss_one (ps_ret (pe_lst (pa_cons (pk T.k_WRONG_NUMBER) pa_nil)))) pss_nil)
      (pss_cons (ps_if (pt_not (pt_val (pe_call (ok_in_port T) (hr.mono (by decide)) rfl T.m_in_port T.F_in_port.kp T.b_in_port .nil pass0 (pa_cons (pe_call (ok_leg_in T) (hr.mono (by decide)) rfl T.m_leg_in T.F_leg_in.kp T.b_leg_in .nil pass0 (pa_cons (pe_fld (pv 0) rfl) (pa_cons (pe_fld (pv 0) rfl) pa_nil))) pa_nil)))) (pss_one (ps_ret (pe_lst (pa_cons (pk T.k_NOT_HERE) pa_nil)))) pss_nil)
      (pss_cons (ps_if (PW.pt (pw_or (pt_cmpR op_gt (pv 1) (pe_fld (pv 0) rfl) (nomark _)) (pw_or1 (pt_cmpR op_gt (pv 2) (pe_fld (pv 0) rfl) (nomark _))))) (pss_one (ps_ret (pe_lst (pa_cons (pk T.k_TOO_LITTLE) pa_nil)))) pss_nil)
      (pss_cons (ps_fldaug (pv 0) (pv 1) in_sub)
      (pss_cons (ps_fldaug (pv 0) (pv 2) in_sub)
      (pss_cons (ps_fldaug (pv 0) (pe_op op_add (pv 1) (pv 2)) in_add)
      (pss_one (ps_ret (pe_lst (pa_cons (pe_fld (pv 0) rfl) (pa_cons (pe_fld (pv 0) rfl) pa_nil))))))))))), ?_⟩
    have h : Prom a H p (chShore r n m) Q := h
    unfold chShore at h
    refine ⟨_, rfl, rfl, _, rfl, ?_⟩
    rw [dec_int0]
    by_cases c0 : n = 0 ∧ m = 0
    · rw [if_pos c0] at h
      rw [if_pos (decide_eq_true (show (n : Int) = 0 by omega))]
      refine ⟨_, rfl, rfl, _, rfl, ?_⟩
      rw [dec_int0]
      exact ite2 (fun _ => h.no (But.refl _ _) S.st) (fun z => absurd (decide_eq_true (show (m : Int) = 0 by omega)) z)
    rw [if_neg c0] at h
    refine ite2 (fun c => ?x1) (fun c => iteF ?x2)
    case' x1 =>
      refine ⟨_, rfl, rfl, _, rfl, ?_⟩
      have c1 : (n : Int) = 0 := of_decide_eq_true c
      rw [dec_int0]
      refine ite2 (fun z => absurd ⟨by omega, by have : (m : Int) = 0 := of_decide_eq_true z; omega⟩ c0) (fun _ => ?_)
    all_goals
      refine ⟨_, rfl, p, a.c_State, dx, _, _, rfl, S.st, T.c_State, T.n_State_legs, rfl, _, rfl, p, a.c_State, dx, _, _, rfl, S.st, T.c_State, T.n_State_hour, rfl, t, ps, r.legs, r.hour, rfl, S.tu, S.lg, fun q H1 e s1 L => ?_⟩
      refine ⟨q, e, _, _, rfl, L, _, rfl, ?_⟩
      have S1 := S.same s1
      have eL : Km442.legAt r.legs r.hour = r.leg r.hour := rfl
      rw [eL]
      clear c c0
      refine ite2 (fun c => ?_) (fun c => ?_)
      · have c' : (r.leg r.hour).miles ≠ 0 := fun z => by
          rw [z] at c
          exact absurd c (by decide)
        rw [if_pos c'] at h
        exact h.no (But.of s1) S1.st
      have c' : ¬ (r.leg r.hour).miles ≠ 0 := fun z => c (by
        have : ¬ ((r.leg r.hour).miles : Int) = 0 := by omega
        rw [decide_eq_false this]
        rfl)
      rw [if_neg c'] at h
      have bad : (r.grey < n ∨ r.black < m) → 1 ≤ sizeLine ∧ ∀ q, H1 q = none → Q (.ref q) (upd H1 q (.lst [V.int (-12)])) := fun c => by
        rw [if_pos c] at h
        exact h.no (But.of s1) S1.st
      refine ⟨_, rfl, _, rfl, p, a.c_State, dx, _, _, rfl, S1.st, T.c_State, T.n_State_grey, rfl, _, _, rfl, rfl, _, rfl, ?_⟩
      refine ite2 (fun c => iteT (bad (by have : (r.grey : Int) < n := of_decide_eq_true c; omega))) (fun c2 => ?_)
      have d2 : ¬ (r.grey : Int) < (n : Int) := fun z => c2 (decide_eq_true z)
      refine ⟨_, rfl, _, rfl, p, a.c_State, dx, _, _, rfl, S1.st, T.c_State, T.n_State_black, rfl, _, _, rfl, rfl, _, rfl, ?_⟩
      refine ite2 (fun c => bad (by have : (r.black : Int) < m := of_decide_eq_true c; omega)) (fun c3 => ?_)
      have d3 : ¬ (r.black : Int) < (m : Int) := fun z => c3 (decide_eq_true z)
      rw [if_neg (by omega)] at h
      have S2 := S1.set (r' := hg1 (rawOf r) n)
      have S3 := S1.set (r' := hg3 (hg1 (rawOf r) n) m)
      have S4 := S1.set (r' := rA (hg3 (hg1 (rawOf r) n) m) (n + m))
      have e3 : rA (hg3 (hg1 (rawOf r) n) m) (n + m) = rawOf { r with grey := r.grey - n, black := r.black - m, ashore := r.ashore + n + m } := by
        show (⟨szOf r, r.legs, r.hour, r.persons, r.uses, b01 r.making, b01 r.letGrey, b01 r.letBlack, r.fresh, (r.grey : Int) - (n : Int), (r.black : Int) - (m : Int), r.made, r.used, r.goneGrey, r.goneBlack, (r.ashore : Int) + ((n : Int) + (m : Int)), r.lacked⟩ : Raw) = _
        rw [← Int.ofNat_sub (by omega), ← Int.ofNat_sub (by omega), show (r.ashore : Int) + ((n : Int) + (m : Int)) = ((r.ashore + n + m : Nat) : Int) by omega]
        rfl
      refine ⟨_, rfl, p, a.c_State, dx, _, _, rfl, S1.st, T.c_State, T.n_State_grey, rfl, _, rfl, _, _, rfl, rfl, dx, _, S1.st, (by show 17 < 1000; decide), ?_⟩
      refine ⟨_, rfl, p, a.c_State, dx, _, _, rfl, S2.st, T.c_State, T.n_State_black, rfl, _, rfl, _, _, rfl, rfl, dx, _, S2.st, (by show 17 < 1000; decide), ?_⟩
      rw [upd_upd]
      refine ⟨_, rfl, p, a.c_State, dx, _, _, rfl, S3.st, T.c_State, T.n_State_ashore, rfl, _, rfl, _, rfl, _, _, rfl, rfl, _, _, rfl, rfl, dx, _, S3.st, (by show 17 < 1000; decide), ?_⟩
      rw [upd_upd]
      refine ⟨_, rfl, p, a.c_State, dx, _, _, rfl, S4.st, T.c_State, T.n_State_grey, rfl, _, rfl, p, a.c_State, dx, _, _, rfl, S4.st, T.c_State, T.n_State_black, rfl, ?_⟩
      rw [e3] at S4
      have := h.yes ((But.of s1).trans But.upd) ⟨dx, z, t, ps, S4⟩ (by simp)
      rw [← e3, Int.ofNat_sub (by omega), Int.ofNat_sub (by omega)] at this
      exact this
theorem ok_let_hours_go_by (T : Tx K mg a) : FnOk P w K mg base CX0 6 a.f_let_hours_go_by a.d_let_hours_go_by ["state", "n"] (spCh1 a .hours) := by
  refine T.F_let_hours_go_by.ok sc_let_hours_go_by (fun vs H Q E h => ?_) (fun cdv A outer s H vs Q E hr h => ?_)
  · obtain ⟨p, r, n, rfl, _⟩ := h
    rfl
  · obtain ⟨p, r, n, rfl, ⟨dx, z, t, ps, S⟩, g, h⟩ := h
    refine ⟨_, (pss_cons (ps_if (PW.pt (pw_or (pt_cmpR op_lt (pv 1) pe_int (nomark _)) (pw_or1 (pt_cmpR op_gt (pv 1) (pk T.k_MOST_HOURS_AT_ONCE) (nomark _))))) (pss_one (ps_ret (pe_lst (pa_cons (pk T.k_WRONG_NUMBER) pa_nil)))) pss_nil)
      (pss_cons (ps_if (pt_cmpR op_gt (pe_op op_add (pe_fld (pv 0) rfl) (pv 1)) (pk T.k_LAST_HOUR) (nomark _)) (pss_one (ps_ret (pe_lst (pa_cons (pk T.k_TOO_LATE) pa_nil)))) pss_nil)
      (pss_cons (ps_set (i := 2) sc_let_hours_go_by.nd rfl (Or.inl rfl) (pe_fld (pv 0) rfl))
      (pss_cons (ps_expr (pe_call (ok_pass_hours T) (hr.mono (by decide)) rfl T.m_pass_hours T.F_pass_hours.kp T.b_pass_hours .nil pass0 (pa_cons (pv 0) (pa_cons (pv 1) pa_nil))))
      (pss_cons (ps_if (pt_cmpR op_gt (pe_fld (pv 0) rfl) (pk T.k_MOST_TAKEN_IN) (nomark _)) (pss_one (ps_ret (pe_lst (pa_cons (pk T.k_NO_MORE) pa_nil)))) pss_nil)
      (pss_one (ps_ret (pe_lst (pa_cons (pe_fld (pv 0) rfl) (pa_cons (pe_op op_sub (pe_fld (pv 0) rfl) (pv 2)) (pa_cons (pe_fld (pv 0) rfl) (pa_cons (pe_fld (pv 0) rfl) (pa_cons (pe_fld (pv 0) rfl) pa_nil))))))))))))), ?_⟩
    have h : Prom a H p (chHours r n) Q := h
    unfold chHours at h
    have bad : (n = 0 ∨ 500 < n) → 1 ≤ sizeLine ∧ ∀ q, H q = none → Q (.ref q) (upd H q (.lst [V.int (-22)])) := fun c => by
      rw [if_pos c] at h
      exact h.no (But.refl _ _) S.st
    refine ⟨_, rfl, _, _, rfl, rfl, _, rfl, ?_⟩
    refine ite2 (fun c => iteT (bad (by have : (n : Int) < 1 := of_decide_eq_true c; omega))) (fun c1 => ?_)
    refine ⟨_, rfl, _, _, rfl, rfl, _, rfl, ?_⟩
    refine ite2 (fun c => bad (by have : (500 : Int) < n := of_decide_eq_true c; omega)) (fun c2 => ?_)
    have d1 : ¬ (n : Int) < 1 := fun z => c1 (decide_eq_true z)
    have d2 : ¬ (500 : Int) < n := fun z => c2 (decide_eq_true z)
    rw [if_neg (by omega)] at h
    refine ⟨_, rfl, p, a.c_State, dx, _, _, rfl, S.st, T.c_State, T.n_State_hour, rfl, _, rfl, _, _, rfl, rfl, _, _, rfl, rfl, _, rfl, ?_⟩
    refine ite2 (fun c => ?_) (fun c3 => ?_)
    · have c' : (10000 : Int) < (r.hour : Int) + (n : Int) := of_decide_eq_true c
      rw [if_pos (by omega)] at h
      exact h.no (But.refl _ _) S.st
    have d3 : ¬ (10000 : Int) < (r.hour : Int) + (n : Int) := fun z => c3 (decide_eq_true z)
    rw [if_neg (by omega)] at h
    refine ⟨_, rfl, p, a.c_State, dx, _, _, rfl, S.st, T.c_State, T.n_State_lacked, rfl, ?_⟩
    refine ⟨_, rfl, _, rfl, p, r, n, rfl, ⟨dx, z, t, ps, S⟩, g, (by omega), fun H1 S1 k1 => ?_⟩
    obtain ⟨dy, z2, t2, ps2, S2⟩ := id S1
    refine ⟨_, rfl, p, a.c_State, dy, _, _, rfl, S2.st, T.c_State, T.n_State_taken_in, rfl, _, _, rfl, rfl, _, rfl, ?_⟩
    refine ite2 (fun c => ?_) (fun c4 => ?_)
    · have c' : (1000000000 : Int) < ((r.hours n).made : Int) := of_decide_eq_true c
      rw [if_pos (by omega)] at h
      exact h.no k1 S2.st
    have d4 : ¬ (1000000000 : Int) < ((r.hours n).made : Int) := fun z => c4 (decide_eq_true z)
    rw [if_neg (by omega)] at h
    have hl := Sh.hours_lacked r n
    have := h.yes k1 S1 (by simp)
    rw [Int.ofNat_sub hl] at this
    exact ⟨_, rfl, p, a.c_State, dy, _, _, rfl, S2.st, T.c_State, T.n_State_hour, rfl, _, rfl, p, a.c_State, dy, _, _, rfl, S2.st, T.c_State, T.n_State_lacked, rfl, _, rfl, _, _, rfl, rfl, _, rfl, p, a.c_State, dy, _, _, rfl, S2.st, T.c_State, T.n_State_fresh, rfl, _, rfl, p, a.c_State, dy, _, _, rfl, S2.st, T.c_State, T.n_State_grey, rfl, _, rfl, p, a.c_State, dy, _, _, rfl, S2.st, T.c_State, T.n_State_black, rfl, this⟩
end
end Sp
end
section
set_option Elab.async false
set_option linter.all false
set_option maxRecDepth 100000
set_option maxHeartbeats 3900000
namespace Sp
open PySem PySem.Spec PyProof.Rows L2
open Km442 (Leg Ship Desk Call mayMake mayGrey mayBlack greyOf goes bit act)
open Sh (Good GoodD gN bN uN)
/-! ### the desk, as the program keeps it -/
def shF (n e u : Addr) : List (Str × V) := F_Ship (.ref n) (.ref e) (.ref u)
def StatesAt (a : Ad) (H : Hp) : List Addr → List Ship → Prop
  | [], [] => True
  | p :: ps, s :: l => StateAt a H p (rawOf s) ∧ StatesAt a H ps l
  | _, _ => False
theorem StatesAt.same {a : Ad} {H H' : Hp} (s : Same H H') : ∀ {ps : List Addr} {l : List Ship}, StatesAt a H ps l → StatesAt a H' ps l
  | [], [], h => h
  | _ :: _, _ :: _, h => ⟨StateAt.same s h.1, StatesAt.same s h.2⟩
  | [], _ :: _, h => h
  | _ :: _, [], h => h
theorem StatesAt.len {a : Ad} {H : Hp} : ∀ {ps : List Addr} {l : List Ship}, StatesAt a H ps l → ps.length = l.length
  | [], [], _ => rfl
  | _ :: _, _ :: _, h => congrArg Nat.succ (StatesAt.len h.2)
  | [], _ :: _, h => h.elim
  | _ :: _, [], h => h.elim
theorem StatesAt.snoc {a : Ad} {H : Hp} {q : Addr} {s : Ship} : ∀ {ps : List Addr} {l : List Ship}, StatesAt a H ps l → StateAt a H q (rawOf s) → StatesAt a H (ps ++ [q]) (l ++ [s])
  | [], [], _, h => ⟨h, True.intro⟩
  | _ :: _, _ :: _, h, h2 => ⟨h.1, StatesAt.snoc h.2 h2⟩
  | [], _ :: _, h, _ => h.elim
  | _ :: _, [], h, _ => h.elim
theorem StatesAt.drop {a : Ad} {H : Hp} : ∀ {ps : List Addr} {l : List Ship} (n : Nat), StatesAt a H ps l → StatesAt a H (ps.drop n) (l.drop n)
  | _, _, 0, h => h
  | [], [], _ + 1, h => h
  | _ :: _, _ :: _, n + 1, h => StatesAt.drop n h.2
  | [], _ :: _, _ + 1, h => h.elim
  | _ :: _, [], _ + 1, h => h.elim
/-- a state's parts are no lists and no ship: these may be written -/
theorem StateAt.keep {a : Ad} {H H' : Hp} {p : Addr} {r : Raw} (ex : Addr → Prop) (hx : ∀ b o, ex b → H b = some o → (∃ xs, o = .lst xs) ∨ (∃ C dx n e u, o = .ins C dx (shF n e u))) (s : ∀ b o, H b = some o → ¬ ex b → H' b = some o) : StateAt a H p r → StateAt a H' p r := by
  rintro ⟨dx, z, t, ps, S⟩
  have ins : ∀ {b C dy} {fs : List (Str × V)}, H b = some (.ins C dy fs) → (∀ n e u, fs ≠ shF n e u) → H' b = some (.ins C dy fs) := fun {b C dy fs} h n => s _ _ h fun e => by
    rcases hx _ _ e h with ⟨xs, q⟩ | ⟨C', dx', n', e', u', q⟩
    · cases q
    · injection q with _ _ q; exact n _ _ _ q
  have lg : ∀ {b : Nat} {ps : List Addr} {l : List Leg}, LegsAt a H b ps l → LegsAt a H' b ps l := by
    intro b ps l
    induction ps generalizing b l with
    | nil => cases l <;> exact id
    | cons q ps ih =>
      cases l with
      | nil => exact id
      | cons x l => exact fun ⟨⟨dl, h1⟩, h2⟩ => ⟨⟨dl, ins h1 fun n e u => key_ne (by decide +kernel)⟩, ih h2⟩
  obtain ⟨dz, hz⟩ := S.sz
  refine ⟨dx, z, t, ps, ins S.st fun n e u => key_ne (by decide +kernel), ⟨dz, ins hz fun n e u => key_ne (by decide +kernel)⟩, s _ _ S.tu fun e => ?_, lg S.lg⟩
  rcases hx _ _ e S.tu with ⟨xs, q⟩ | ⟨C', dx', n', e', u', q⟩ <;> cases q
theorem StatesAt.keep {a : Ad} {H H' : Hp} (ex : Addr → Prop) (hx : ∀ b o, ex b → H b = some o → (∃ xs, o = .lst xs) ∨ (∃ C dx n e u, o = .ins C dx (shF n e u))) (s : ∀ b o, H b = some o → ¬ ex b → H' b = some o) : ∀ {ps : List Addr} {l : List Ship}, StatesAt a H ps l → StatesAt a H' ps l
  | [], [], h => h
  | _ :: _, _ :: _, h => ⟨StateAt.keep ex hx s h.1, StatesAt.keep ex hx s h.2⟩
  | [], _ :: _, h => h
  | _ :: _, [], h => h
structure ShAt (a : Ad) (H : Hp) (p : Addr) (d : Desk) (dx n e u : Addr) (es us : List Addr) : Prop where
  sh : H p = some (.ins a.c_Ship dx (shF n e u))
  now : StateAt a H n (rawOf d.now)
  le : H e = some (.lst (es.map V.ref))
  lu : H u = some (.lst (us.map V.ref))
  ne : e ≠ u
  past : StatesAt a H es d.past.reverse
  fut : StatesAt a H us d.future.reverse
def DeskAt (a : Ad) (H : Hp) (p : Addr) (d : Desk) : Prop := ∃ dx n e u es us, ShAt a H p d dx n e u es us
theorem DeskAt.same {a : Ad} {H H' : Hp} {p : Addr} {d : Desk} (s : Same H H') : DeskAt a H p d → DeskAt a H' p d := fun ⟨dx, n, e, u, es, us, S⟩ =>
  ⟨dx, n, e, u, es, us, s _ _ S.sh, StateAt.same s S.now, s _ _ S.le, s _ _ S.lu, S.ne, S.past.same s, S.fut.same s⟩
section
variable {P : Program} {w : World} {K : PySem.W.Frag} {mg : Str → Option Value} {base : Heap} {a : Ad}
def sp_is_change : Sp := fun vs H Q _ => ∃ k : Nat, vs = [.int k] ∧ k < 23 ∧ ∀ H' : Hp, Same H H' → Q (.bl (decide (1 ≤ k ∧ k ≤ 6))) H'
theorem ok_is_change (T : Tx K mg a) : FnOk P w K mg base CX0 1 a.f_is_change a.d_is_change ["number"] sp_is_change := by
  refine T.F_is_change.ok sc_is_change (fun vs H Q E h => ?_) (fun cdv A outer s H vs Q E hr h => ?_)
  · obtain ⟨k, rfl, _⟩ := h
    rfl
  · obtain ⟨k, rfl, hk, h⟩ := h
    refine ⟨_, (pss_one (ps_ret (pe_cmpR op_in_seq (pv 0) (pe_tup (pa_cons (pk T.k_LEG) (pa_cons (pk T.k_PERSONS) (pa_cons (pk T.k_SET) (pa_cons (pk T.k_BUNKER) (pa_cons (pk T.k_ASHORE) (pa_cons (pk T.k_HOURS) pa_nil))))))) (by with_unfolding_all rfl)))), ?_⟩
    refine ⟨_, rfl, (by show 6 ≤ sizeLine; decide), fun p hp => ?_⟩
    refine ⟨p, _, rfl, .inr (SqT.of upd_same), rfl, rfl, ?_⟩
    have e : inV (V.int k) [V.int 1, V.int 2, V.int 3, V.int 4, V.int 5, V.int 6] = decide (1 ≤ k ∧ k ≤ 6) := by
      have : ∀ k, k < 23 → inV (V.int (k : Nat)) [V.int 1, V.int 2, V.int 3, V.int 4, V.int 5, V.int 6] = decide (1 ≤ k ∧ k ≤ 6) := by decide
      exact this k hk
    have := h _ (Same.upd (o := .tup [V.int 1, V.int 2, V.int 3, V.int 4, V.int 5, V.int 6]) hp)
    rw [← e] at this
    exact this
/-- a ship made -/
def sp_Ship_init (a : Ad) : Sp := fun vs H Q _ => ∃ (p dx q : Addr) (z : Sz), vs = [.ref p, .ref q] ∧ H p = some (.ins a.c_Ship dx []) ∧ SzAt a H q z ∧
  ∀ (n e u : Addr) (H' : Hp), But p H H' → H e = none → H u = none → H' p = some (.ins a.c_Ship dx (shF n e u)) → StateAt a H' n (raw0 z) → H' e = some (.lst []) → H' u = some (.lst []) → e ≠ u → Q .non H'
theorem ok_Ship_init (T : Tx K mg a) : FnOk P w K mg base CX0 3 a.f_Ship_init a.d_Ship_init ["self", "sizes"] (sp_Ship_init a) := by
  refine T.F_Ship_init.ok sc_Ship_init (fun vs H Q E h => ?_) (fun cdv A outer s H vs Q E hr h => ?_)
  · obtain ⟨p, dx, q, z, rfl, _⟩ := h
    rfl
  · obtain ⟨p, dx, q, z, rfl, hp, hz, h⟩ := h
    refine ⟨_, (pss_cons (ps_fld (pv 0) (pe_make T.M_State (ok_State_init T) (hr.mono (by decide)) rfl T.m_State T.b_State_init .nil pass0 (pa_cons (pv 1) pa_nil)) rfl)
      (pss_cons (ps_fld (pv 0) (pe_lst pa_nil) rfl)
      (pss_one (ps_fld (pv 0) (pe_lst pa_nil) rfl)))), ?_⟩
    refine ⟨_, rfl, ?_⟩
    intro x dy nx nd ne
    have s0 : Same H (upd (upd H dy (.own x)) x (.ins a.c_State dy [])) := (Same.upd nd).trans (Same.upd (by rw [upd_ne (Ne.symm ne)]; exact nx))
    refine ⟨x, dy, q, z, rfl, upd_same, hz.same s0, fun t0 H1 S1 k1 => ⟨rfl, ?_⟩⟩
    have s1 : Same H H1 := Same.made nx nd k1
    have npx : p ≠ x := ne_of_none hp nx
    have h1 := s1 _ _ hp
    refine ⟨_, rfl, p, a.c_Ship, dx, _, rfl, h1, T.c_Ship, T.n_Ship_now, (by show 0 < 1000; decide), ?_⟩
    refine ⟨Nat.zero_le _, fun e he => ?_⟩
    have npe : p ≠ e := ne_of_none upd_same he
    refine ⟨_, rfl, p, a.c_Ship, dx, _, rfl, (by rw [upd_ne npe]; exact upd_same), T.c_Ship, T.n_Ship_earlier, (by show 1 < 1000; decide), ?_⟩
    refine ⟨Nat.zero_le _, fun u hu => ?_⟩
    have npu : p ≠ u := ne_of_none upd_same hu
    have neu : e ≠ u := ne_of_none (by rw [upd_ne (Ne.symm npe)]; exact upd_same) hu
    refine ⟨_, rfl, p, a.c_Ship, dx, _, rfl, (by rw [upd_ne npu]; exact upd_same), T.c_Ship, T.n_Ship_undone, (by show 2 < 1000; decide), ?_⟩
    have up : ∀ (b : Addr) (o : HO), H1 b = some o → b ≠ p → upd (upd (upd (upd (upd H1 p (.ins a.c_Ship dx (putF "now" (.ref x) []))) e (.lst [])) p (.ins a.c_Ship dx (putF "earlier" (.ref e) (putF "now" (.ref x) [])))) u (.lst [])) p (.ins a.c_Ship dx (putF "undone" (.ref u) (putF "earlier" (.ref e) (putF "now" (.ref x) [])))) b = some o := fun b o hb n => by
      have q1 : upd H1 p (.ins a.c_Ship dx (putF "now" (.ref x) [])) b = some o := by rw [upd_ne n]; exact hb
      have nbe := ne_of_none q1 he
      have q2 : upd (upd (upd H1 p (.ins a.c_Ship dx (putF "now" (.ref x) []))) e (.lst [])) p (.ins a.c_Ship dx (putF "earlier" (.ref e) (putF "now" (.ref x) []))) b = some o := by rw [upd_ne n, upd_ne nbe]; exact q1
      rw [upd_ne n, upd_ne (ne_of_none q2 hu)]
      exact q2
    have He : H1 e = none := by rw [upd_ne (Ne.symm npe)] at he; exact he
    have Hu : H1 u = none := by rw [upd_ne (Ne.symm npu), upd_ne (Ne.symm neu), upd_ne (Ne.symm npu)] at hu; exact hu
    refine h x e u _ (fun b o hb n => up b o (s1 b o hb) n) (s1.free He) (s1.free Hu) upd_same ?_ ?_ ?_ neu
    · obtain ⟨dz, hz1⟩ := S1.sz
      refine ⟨dy, q, t0, [], up _ _ S1.st (Ne.symm npx), ⟨dz, up _ _ hz1 (ne_of hz1 h1 (ins_ne (fun e => nomatch e)))⟩, up _ _ S1.tu (ne_of S1.tu h1 (by intro e; cases e)), True.intro⟩
    · rw [upd_ne (Ne.symm npe), upd_ne neu, upd_ne (Ne.symm npe)]
      exact upd_same
    · rw [upd_ne (Ne.symm npu)]
      exact upd_same
end
end Sp
end
section
set_option Elab.async false
set_option linter.all false
set_option maxRecDepth 100000
set_option maxHeartbeats 3900000
namespace Sp
open PySem PySem.Spec PyProof.Rows L2
open Km442 (Leg Ship Desk Call mayMake mayGrey mayBlack greyOf goes bit act)
open Sh (Good GoodD gN bN uN)
theorem cut_last (xs : List V) (k : Nat) (h : 0 < k) : cutV xs (some (-(k : Int))) none = xs.drop (xs.length - k) := by
  unfold cutV
  have e1 : HT.sIx xs.length xs.length none = xs.length := rfl
  have e2 : HT.sIx xs.length 0 (some (-(k : Int))) = xs.length - k := by
    show (if -(k : Int) < 0 then (-(k : Int) + (xs.length : Int)).toNat else min (-(k : Int)).toNat xs.length) = _
    rw [if_pos (by omega)]
    omega
  rw [e1, e2]
  exact List.take_of_length_le (by rw [List.length_drop]; exact Nat.le_refl _)
/-- behind a call on the ship: what stands there, and that nothing else has changed -/
def After (a : Ad) (H : Hp) (p dx e u : Addr) (d : Desk) (H' : Hp) : Prop := ∃ n' e' u' es' us', ShAt a H' p d dx n' e' u' es' us' ∧ (e' = e ∨ H e' = none) ∧ (u' = u ∨ H u' = none) ∧ ∀ b o, H b = some o → b ≠ p → b ≠ e → b ≠ u → H' b = some o
theorem After.same {a : Ad} {H H' H2 : Hp} {p dx e u : Addr} {d : Desk} (h : After a H p dx e u d H') (s : Same H' H2) : After a H p dx e u d H2 := by
  obtain ⟨n', e', u', es', us', S, h1, h2, h3⟩ := h
  exact ⟨n', e', u', es', us', ⟨s _ _ S.sh, StateAt.same s S.now, s _ _ S.le, s _ _ S.lu, S.ne, S.past.same s, S.fut.same s⟩, h1, h2, fun b o hb n1 n2 n3 => s _ _ (h3 b o hb n1 n2 n3)⟩
theorem After.of {a : Ad} {H H1 H' : Hp} {p dx e u : Addr} {d : Desk} (s : Same H H1) (h : After a H1 p dx e u d H') : After a H p dx e u d H' := by
  obtain ⟨n', e', u', es', us', S, h1, h2, h3⟩ := h
  exact ⟨n', e', u', es', us', S, h1.imp id s.free, h2.imp id s.free, fun b o hb n1 n2 n3 => h3 b o (s _ _ hb) n1 n2 n3⟩
theorem After.refl {a : Ad} {H : Hp} {p dx n e u : Addr} {es us : List Addr} {d : Desk} (S : ShAt a H p d dx n e u es us) : After a H p dx e u d H := ⟨n, e, u, es, us, S, .inl rfl, .inl rfl, fun _ _ h _ _ _ => h⟩
section
variable {P : Program} {w : World} {K : PySem.W.Frag} {mg : Str → Option Value} {base : Heap} {a : Ad}
def sp_Ship_keep (a : Ad) : Sp := fun vs H Q _ => ∃ (p q dx n e u : Addr) (es us : List Addr) (d : Desk) (s' : Ship), vs = [.ref p, .ref q] ∧ ShAt a H p d dx n e u es us ∧ d.past.length ≤ 30 ∧ StateAt a H q (rawOf s') ∧ ∀ H' : Hp, After a H p dx e u (d.become s') H' → Q .non H'
theorem ok_Ship_keep (T : Tx K mg a) : FnOk P w K mg base CX0 1 a.f_Ship_keep a.d_Ship_keep ["self", "changed"] (sp_Ship_keep a) := by
  refine T.F_Ship_keep.ok sc_Ship_keep (fun vs H Q E h => ?_) (fun cdv A outer s H vs Q E hr h => ?_)
  · obtain ⟨p, q, dx, n, e, u, es, us, d, s', rfl, _⟩ := h
    rfl
  · obtain ⟨p, q, dx, n, e, u, es, us, d, s', rfl, S, hd, Sq, h⟩ := h
    refine ⟨_, (pss_cons (ps_expr (pe_bm PySem.F.plainAttrs_list PySem.F.slot_list_append PySem.F.type_list_append mt_append (pe_fld (pv 0) rfl) (pa_cons (pe_fld (pv 0) rfl) pa_nil)))
      (pss_cons (ps_fld (pv 0) (pe_slice sl_list (pe_fld (pv 0) rfl) (po_some (pe_un un_neg (pk T.k_MOST_KEPT))) po_none) rfl)
      (pss_cons (ps_fld (pv 0) (pe_lst pa_nil) rfl)
      (pss_one (ps_fld (pv 0) (pv 1) rfl))))), ?_⟩
    have hl : es.length = d.past.length := by
      have := S.past.len
      rw [List.length_reverse] at this
      exact this
    have npe : p ≠ e := ne_of S.sh S.le (by intro z; cases z)
    refine ⟨_, rfl, p, a.c_Ship, dx, _, _, rfl, S.sh, T.c_Ship, T.n_Ship_earlier, rfl, .inl ⟨rfl, _, SqL.of S.le⟩, _, rfl, p, a.c_Ship, dx, _, _, rfl, S.sh, T.c_Ship, T.n_Ship_now, rfl, e, _, _, rfl, rfl, S.le, (by rw [List.length_map, hl]; exact Nat.lt_of_le_of_lt hd (by decide)), ?_⟩
    have e1 : upd H e (.lst (es.map V.ref ++ [V.ref n])) p = some (.ins a.c_Ship dx (shF n e u)) := by rw [upd_ne npe]; exact S.sh
    have em : es.map V.ref ++ [V.ref n] = (es ++ [n]).map V.ref := by rw [List.map_append]; rfl
    rw [em]
    rw [em] at e1
    refine ⟨_, rfl, p, a.c_Ship, dx, _, _, rfl, e1, T.c_Ship, T.n_Ship_earlier, rfl, 30, rfl, -30, rfl, e, _, rfl, SqL.of upd_same, fun l hl' => ?_⟩
    have ec : cutV ((es ++ [n]).map V.ref) (some (-30)) none = ((es ++ [n]).drop ((es ++ [n]).length - 30)).map V.ref := by
      rw [show (-30 : Int) = -((30 : Nat) : Int) from rfl, cut_last _ 30 (by decide), List.map_drop, List.length_map]
    rw [ec]
    have hel : e ≠ l := ne_of_none upd_same hl'
    have hpl : p ≠ l := ne_of_none e1 hl'
    have Hl : H l = none := by
      rw [upd_ne (Ne.symm hel)] at hl'
      exact hl'
    refine ⟨_, rfl, p, a.c_Ship, dx, _, rfl, (by rw [upd_ne hpl]; exact e1), T.c_Ship, T.n_Ship_earlier, (by show 3 < 1000; decide), ?_⟩
    refine ⟨Nat.zero_le _, fun v hv => ?_⟩
    have hpv : p ≠ v := ne_of_none upd_same hv
    have hlv : l ≠ v := ne_of_none (by rw [upd_ne (Ne.symm hpl)]; exact upd_same) hv
    have hev : e ≠ v := ne_of_none (by rw [upd_ne (Ne.symm npe), upd_ne hel]; exact upd_same) hv
    have Hv : H v = none := by
      rw [upd_ne (Ne.symm hpv), upd_ne (Ne.symm hlv), upd_ne (Ne.symm hev)] at hv
      exact hv
    refine ⟨_, rfl, p, a.c_Ship, dx, _, rfl, (by rw [upd_ne hpv]; exact upd_same), T.c_Ship, T.n_Ship_undone, (by show 3 < 1000; decide), ?_⟩
    refine ⟨_, rfl, _, rfl, p, a.c_Ship, dx, _, rfl, upd_same, T.c_Ship, T.n_Ship_now, (by show 3 < 1000; decide), ?_⟩
    rw [upd_upd]
    have es5 : putF "now" (V.ref q) (putF "undone" (V.ref v) (putF "earlier" (V.ref l) (shF n e u))) = shF q l v := rfl
    rw [es5]
    refine h _ ?_
    generalize hG : upd (upd (upd (upd (upd H e (.lst ((es ++ [n]).map V.ref))) l (.lst (((es ++ [n]).drop ((es ++ [n]).length - 30)).map V.ref))) p (.ins a.c_Ship dx (putF "earlier" (V.ref l) (shF n e u)))) v (.lst [])) p (.ins a.c_Ship dx (shF q l v)) = G
    have gp : G p = some (.ins a.c_Ship dx (shF q l v)) := by rw [← hG]; exact upd_same
    have gv : G v = some (.lst []) := by rw [← hG, upd_ne (Ne.symm hpv)]; exact upd_same
    have gl : G l = some (.lst (((es ++ [n]).drop ((es ++ [n]).length - 30)).map V.ref)) := by rw [← hG, upd_ne (Ne.symm hpl), upd_ne hlv, upd_ne (Ne.symm hpl)]; exact upd_same
    have kp : ∀ b o, H b = some o → ¬ (b = p ∨ b = e) → G b = some o := fun b o hb nb => by
      have n1 : b ≠ p := fun z => nb (.inl z)
      have n2 : b ≠ e := fun z => nb (.inr z)
      rw [← hG, upd_ne n1, upd_ne (ne_of_none hb Hv), upd_ne n1, upd_ne (ne_of_none hb Hl), upd_ne n2]
      exact hb
    have hx : ∀ b o, (b = p ∨ b = e) → H b = some o → (∃ xs, o = .lst xs) ∨ (∃ C dx n e u, o = .ins C dx (shF n e u)) := fun b o hb ho => by
      rcases hb with rfl | rfl
      · rw [S.sh] at ho
        exact .inr ⟨_, _, _, _, _, (Option.some.inj ho).symm⟩
      · rw [S.le] at ho
        exact .inl ⟨_, (Option.some.inj ho).symm⟩
    refine ⟨q, l, v, (es ++ [n]).drop ((es ++ [n]).length - 30), [], ⟨gp, StateAt.keep _ hx kp Sq, gl, gv, hlv, ?_, True.intro⟩, .inr Hl, .inr Hv, fun b o hb n1 n2 n3 => kp b o hb (fun z => z.elim n1 n2)⟩
    have big : StatesAt a G (es ++ [n]) (d.past.reverse ++ [d.now]) := (StatesAt.keep _ hx kp S.past).snoc (StateAt.keep _ hx kp S.now)
    have := big.drop ((es ++ [n]).length - 30)
    have e9 : (d.become s').past.reverse = (d.past.reverse ++ [d.now]).drop ((es ++ [n]).length - 30) := by
      show ((d.now :: d.past).take 30).reverse = _
      rw [List.reverse_take, List.reverse_cons]
      congr 1
      rw [List.length_append, hl]
      rfl
    rw [e9]
    exact this
end
end Sp
end
section
set_option Elab.async false
set_option linter.all false
set_option maxRecDepth 100000
set_option maxHeartbeats 3900000
namespace Sp
open PySem PySem.Spec PyProof.Rows L2
open Km442 (Leg Ship Desk Call mayMake mayGrey mayBlack greyOf goes bit act)
open Sh (Good GoodD IsCall gN bN uN)
theorem iteY {c A B : Prop} [Decidable c] (h : c) (x : A) : if decide c = true then A else B := by
  rw [if_pos (decide_eq_true h)]
  exact x
theorem iteN {c A B : Prop} [Decidable c] (h : ¬ c) (x : B) : if decide c = true then A else B := by
  rw [if_neg (by rw [decide_eq_false h]; exact Bool.false_ne_true)]
  exact x
theorem vint_ne {m n : Int} (h : m ≠ n) : ¬ V.int m = V.int n := fun z => h (by injection z)
section
variable {P : Program} {w : World} {K : PySem.W.Frag} {mg : Str → Option Value} {base : Heap} {a : Ad}
def sp_change_state (a : Ad) : Sp := fun vs H Q _ => ∃ (p b : Addr) (s : Ship) (k : Nat) (ns : List Int) (c : Call), vs = [.ref p, .int k, .ref b] ∧ IsCall k ns c ∧ isCh c = true ∧ H b = some (.lst (ns.map V.int)) ∧ StateAt a H p (rawOf s) ∧ Good s ∧ Prom a H p (chOf s c) Q
theorem ok_change_state (T : Tx K mg a) : FnOk P w K mg base CX0 7 a.f_change_state a.d_change_state ["state", "number", "numbers"] (sp_change_state a) := by
  refine T.F_change_state.ok sc_change_state (fun vs H Q E h => ?_) (fun cdv A outer s H vs Q E hr h => ?_)
  · obtain ⟨p, b, r, k, ns, c, rfl, _⟩ := h
    rfl
  · obtain ⟨p, b, r, k, ns, c, rfl, hc, hi, hb, S, g, h⟩ := h
    refine ⟨_, (pss_cons (ps_if (pt_cmpR op_eq (pv 1) (pk T.k_LEG) (nomark _)) (pss_one (ps_ret (pe_call (ok_add_leg T) (hr.mono (by decide)) rfl T.m_add_leg T.F_add_leg.kp T.b_add_leg .nil pass0 (pa_cons (pv 0) (pa_cons (pe_ix ix_list (pv 2) pe_int (fun _ _ => rfl)) (pa_cons (pe_ix ix_list (pv 2) pe_int (fun _ _ => rfl)) (pa_cons (pe_ix ix_list (pv 2) pe_int (fun _ _ => rfl)) pa_nil))))))) pss_nil)
      (pss_cons (ps_if (pt_cmpR op_eq (pv 1) (pk T.k_PERSONS) (nomark _)) (pss_one (ps_ret (pe_call (ok_set_persons T) (hr.mono (by decide)) rfl T.m_set_persons T.F_set_persons.kp T.b_set_persons .nil pass0 (pa_cons (pv 0) (pa_cons (pe_ix ix_list (pv 2) pe_int (fun _ _ => rfl)) (pa_cons (pe_ix ix_list (pv 2) pe_int (fun _ _ => rfl)) pa_nil)))))) pss_nil)
      (pss_cons (ps_if (pt_cmpR op_eq (pv 1) (pk T.k_SET) (nomark _)) (pss_one (ps_ret (pe_call (ok_set_switches T) (hr.mono (by decide)) rfl T.m_set_switches T.F_set_switches.kp T.b_set_switches .nil pass0 (pa_cons (pv 0) (pa_cons (pe_ix ix_list (pv 2) pe_int (fun _ _ => rfl)) (pa_cons (pe_ix ix_list (pv 2) pe_int (fun _ _ => rfl)) (pa_cons (pe_ix ix_list (pv 2) pe_int (fun _ _ => rfl)) pa_nil))))))) pss_nil)
      (pss_cons (ps_if (pt_cmpR op_eq (pv 1) (pk T.k_BUNKER) (nomark _)) (pss_one (ps_ret (pe_call (ok_bunker T) (hr.mono (by decide)) rfl T.m_bunker T.F_bunker.kp T.b_bunker .nil pass0 (pa_cons (pv 0) (pa_cons (pe_ix ix_list (pv 2) pe_int (fun _ _ => rfl)) pa_nil))))) pss_nil)
      (pss_cons (ps_if (pt_cmpR op_eq (pv 1) (pk T.k_ASHORE) (nomark _)) (pss_one (ps_ret (pe_call (ok_give_ashore T) (hr.mono (by decide)) rfl T.m_give_ashore T.F_give_ashore.kp T.b_give_ashore .nil pass0 (pa_cons (pv 0) (pa_cons (pe_ix ix_list (pv 2) pe_int (fun _ _ => rfl)) (pa_cons (pe_ix ix_list (pv 2) pe_int (fun _ _ => rfl)) pa_nil)))))) pss_nil)
      (pss_one (ps_ret (pe_call (ok_let_hours_go_by T) (hr.mono (by decide)) rfl T.m_let_hours_go_by T.F_let_hours_go_by.kp T.b_let_hours_go_by .nil pass0 (pa_cons (pv 0) (pa_cons (pe_ix ix_list (pv 2) pe_int (fun _ _ => rfl)) pa_nil)))))))))), ?_⟩
    cases hc with
    | leg x y z =>
      refine ⟨_, rfl, rfl, _, rfl, iteY rfl ?_⟩
      exact ⟨_, rfl, _, rfl, b, _, _, _, rfl, rfl, SqL.of hb, rfl, _, rfl, b, _, _, _, rfl, rfl, SqL.of hb, rfl, _, rfl, b, _, _, _, rfl, rfl, SqL.of hb, rfl, p, r, x, y, z, rfl, S, g, h⟩
    | persons x y =>
      refine ⟨_, rfl, rfl, _, rfl, iteN (vint_ne (by decide)) ?_⟩
      refine ⟨_, rfl, rfl, _, rfl, iteY rfl ?_⟩
      exact ⟨_, rfl, _, rfl, b, _, _, _, rfl, rfl, SqL.of hb, rfl, _, rfl, b, _, _, _, rfl, rfl, SqL.of hb, rfl, p, r, x, y, rfl, S, g, h⟩
    | set_ x y z =>
      refine ⟨_, rfl, rfl, _, rfl, iteN (vint_ne (by decide)) ?_⟩
      refine ⟨_, rfl, rfl, _, rfl, iteN (vint_ne (by decide)) ?_⟩
      refine ⟨_, rfl, rfl, _, rfl, iteY rfl ?_⟩
      exact ⟨_, rfl, _, rfl, b, _, _, _, rfl, rfl, SqL.of hb, rfl, _, rfl, b, _, _, _, rfl, rfl, SqL.of hb, rfl, _, rfl, b, _, _, _, rfl, rfl, SqL.of hb, rfl, p, r, x, y, z, rfl, S, g, h⟩
    | bunker x =>
      refine ⟨_, rfl, rfl, _, rfl, iteN (vint_ne (by decide)) ?_⟩
      refine ⟨_, rfl, rfl, _, rfl, iteN (vint_ne (by decide)) ?_⟩
      refine ⟨_, rfl, rfl, _, rfl, iteN (vint_ne (by decide)) ?_⟩
      refine ⟨_, rfl, rfl, _, rfl, iteY rfl ?_⟩
      exact ⟨_, rfl, _, rfl, b, _, _, _, rfl, rfl, SqL.of hb, rfl, p, r, x, rfl, S, g, h⟩
    | shore x y =>
      refine ⟨_, rfl, rfl, _, rfl, iteN (vint_ne (by decide)) ?_⟩
      refine ⟨_, rfl, rfl, _, rfl, iteN (vint_ne (by decide)) ?_⟩
      refine ⟨_, rfl, rfl, _, rfl, iteN (vint_ne (by decide)) ?_⟩
      refine ⟨_, rfl, rfl, _, rfl, iteN (vint_ne (by decide)) ?_⟩
      refine ⟨_, rfl, rfl, _, rfl, iteY rfl ?_⟩
      exact ⟨_, rfl, _, rfl, b, _, _, _, rfl, rfl, SqL.of hb, rfl, _, rfl, b, _, _, _, rfl, rfl, SqL.of hb, rfl, p, r, x, y, rfl, S, g, h⟩
    | hours x =>
      refine ⟨_, rfl, rfl, _, rfl, iteN (vint_ne (by decide)) ?_⟩
      refine ⟨_, rfl, rfl, _, rfl, iteN (vint_ne (by decide)) ?_⟩
      refine ⟨_, rfl, rfl, _, rfl, iteN (vint_ne (by decide)) ?_⟩
      refine ⟨_, rfl, rfl, _, rfl, iteN (vint_ne (by decide)) ?_⟩
      refine ⟨_, rfl, rfl, _, rfl, iteN (vint_ne (by decide)) ?_⟩
      exact ⟨_, rfl, _, rfl, b, _, _, _, rfl, rfl, SqL.of hb, rfl, p, r, x, rfl, S, g, h⟩
    | _ => cases hi
/-- a call on the ship: a new list, and what has become of the desk -/
def Out (a : Ad) (H : Hp) (p dx e u : Addr) (d : Desk) (c : Call) (Q : VK) : Prop := ∀ (q : Addr) (H' : Hp), H q = none → H' q = some (.lst ((Km442Neutral.told (act d c).2).map V.int)) → After a H p dx e u (act d c).1 H' → Q (.ref q) H'
def sp_make_change (a : Ad) : Sp := fun vs H Q _ => ∃ (p b dx n e u : Addr) (es us : List Addr) (d : Desk) (k : Nat) (ns : List Int) (c : Call), vs = [.ref p, .int k, .ref b] ∧ IsCall k ns c ∧ isCh c = true ∧ H b = some (.lst (ns.map V.int)) ∧ ShAt a H p d dx n e u es us ∧ GoodD d ∧ Out a H p dx e u d c Q
theorem told_ne (v : Km442.Ans) : ∃ x r, Km442Neutral.told v = x :: r := ⟨_, _, rfl⟩
theorem ok_make_change (T : Tx K mg a) : FnOk P w K mg base CX0 8 a.f_make_change a.d_make_change ["ship", "number", "numbers"] (sp_make_change a) := by
  refine T.F_make_change.ok sc_make_change (fun vs H Q E h => ?_) (fun cdv A outer s H vs Q E hr h => ?_)
  · obtain ⟨p, b, dx, n, e, u, es, us, d, k, ns, c, rfl, _⟩ := h
    rfl
  · obtain ⟨p, b, dx, n, e, u, es, us, d, k, ns, c, rfl, hc, hi, hb, S, g, h⟩ := h
    refine ⟨_, (pss_cons (ps_set (i := 3) sc_make_change.nd rfl (Or.inl rfl) (pe_call (ok_copy_of T) (hr.mono (by decide)) rfl T.m_copy_of T.F_copy_of.kp T.b_copy_of .nil pass0 (pa_cons (pe_fld (pv 0) rfl) pa_nil)))
      (pss_cons (ps_set (i := 4) sc_make_change.nd rfl (Or.inl rfl) (pe_call (ok_change_state T) (hr.mono (by decide)) rfl T.m_change_state T.F_change_state.kp T.b_change_state .nil pass0 (pa_cons (pv 3) (pa_cons (pv 1) (pa_cons (pv 2) pa_nil)))))
      (pss_cons (ps_if (pt_cmpR op_ge (pe_ix ix_list (pv 4) pe_int (fun _ _ => rfl)) pe_int (nomark _)) (pss_one (ps_expr (pe_meth (pv 0) T.c_Ship T.me_Ship_keep (ok_Ship_keep T) (hr.mono (by decide)) T.b_Ship_keep .nil pass0 (pa_cons (pv 3) pa_nil)))) pss_nil)
      (pss_one (ps_ret (pv 4)))))), ?_⟩
    refine ⟨_, rfl, p, a.c_Ship, dx, _, _, rfl, S.sh, T.c_Ship, T.n_Ship_now, rfl, n, rawOf d.now, rfl, S.now, fun q H1 nq Sq s1 => ?_⟩
    refine ⟨_, rfl, _, rfl, _, rfl, q, b, d.now, k, ns, c, rfl, hc, hi, s1 _ _ hb, Sq, g.now, fun l H2 k2 nl hl ok => ?_⟩
    have s2 : Same H H2 := fun x o hx => k2 x o (s1 x o hx) (ne_of_none hx nq)
    have nl0 : H l = none := s1.free nl
    have ch := chg_act d c hi
    unfold Out at h
    generalize chOf d.now c = R at ch hl ok
    generalize (act d c).1 = d' at ch h
    generalize Km442Neutral.told (act d c).2 = ans at ch h
    cases ch with
    | no v hv =>
      refine ⟨_, rfl, l, _, _, _, rfl, rfl, SqL.of hl, rfl, _, _, rfl, rfl, _, rfl, iteN (by omega) ?_⟩
      refine ⟨_, rfl, h l H2 nl0 hl ?_⟩
      exact After.same (After.refl S) s2
    | yes v r s' hv hlen =>
      have St := ok s' rfl
      refine ⟨_, rfl, l, _, _, _, rfl, rfl, SqL.of hl, atI_nat (j := 0) rfl, _, _, rfl, rfl, _, rfl, iteY hv ?_⟩
      have S2 : ShAt a H2 p d dx n e u es us := ⟨s2 _ _ S.sh, StateAt.same s2 S.now, s2 _ _ S.le, s2 _ _ S.lu, S.ne, S.past.same s2, S.fut.same s2⟩
      refine ⟨_, rfl, p, dx, _, rfl, S2.sh, rfl, _, rfl, p, q, dx, n, e, u, es, us, d, s', rfl, S2, (by have := g.len; omega), St, fun H3 A3 => ?_⟩
      refine ⟨_, rfl, h l H3 nl0 ?_ (A3.of s2)⟩
      obtain ⟨n', e', u', es', us', S3, h1, h2, h3⟩ := A3
      have ne1 : l ≠ p := fun z => by rw [z, S.sh] at nl0; cases nl0
      have ne2 : l ≠ e := fun z => by rw [z, S.le] at nl0; cases nl0
      have ne3 : l ≠ u := fun z => by rw [z, S.lu] at nl0; cases nl0
      exact h3 l _ hl ne1 ne2 ne3
def sp_may_start : Sp := fun vs H Q _ => ∃ (b : Addr) (x0 x1 x2 x3 x4 x5 : Nat), vs = [.ref b] ∧ H b = some (.lst ([(x0 : Int), (x1 : Int), (x2 : Int), (x3 : Int), (x4 : Int), (x5 : Int)].map V.int)) ∧ Q (.bl (Km442.okStart x0 x1 x2 x3 x4 x5)) H
theorem ok_may_start (T : Tx K mg a) : FnOk P w K mg base CX0 1 a.f_may_start a.d_may_start ["numbers"] sp_may_start := by
  refine T.F_may_start.ok sc_may_start (fun vs H Q E h => ?_) (fun cdv A outer s H vs Q E hr h => ?_)
  · obtain ⟨b, x0, x1, x2, x3, x4, x5, rfl, _⟩ := h
    rfl
  · obtain ⟨b, x0, x1, x2, x3, x4, x5, rfl, hb, h⟩ := h
    refine ⟨_, (pss_one (ps_ret (pe_and (pe_cmpR op_ge (pe_callB (call_minL rfl) (by rfl) T.no_min (by rfl) (pa_cons (pv 0) pa_nil)) pe_int (nomark _)) (pe_one (pe_cmpR op_le (pe_callB (call_maxL rfl) (by rfl) T.no_max (by rfl) (pa_cons (pv 0) pa_nil)) (pk T.k_MOST_LITRES) (nomark _)))))), ?_⟩
    have e0 : Km442.okStart x0 x1 x2 x3 x4 x5 = decide (∀ x ∈ [(x0 : Int), (x1 : Int), (x2 : Int), (x3 : Int), (x4 : Int), (x5 : Int)], 1 ≤ x ∧ x ≤ 10000000) := by
      unfold Km442.okStart Km442.MOST
      simp only [List.all_cons, List.all_nil, Bool.and_true]
      rw [Bool.eq_iff_iff]
      simp
      omega
    rw [e0] at h
    refine ⟨_, rfl, b, _, rfl, SqL.of hb, (by show 0 < 6; decide), fun M hM hle => ⟨_, _, rfl, rfl, _, rfl, ?_⟩⟩
    refine ite2 (fun c => ?_) (fun c => ?_)
    · have c1 : 1 ≤ M := of_decide_eq_true c
      refine ⟨_, rfl, b, _, rfl, SqL.of hb, (by show 0 < 6; decide), fun N hN hge => ⟨_, _, rfl, rfl, ?_⟩⟩
      have : decide (∀ x ∈ [(x0 : Int), (x1 : Int), (x2 : Int), (x3 : Int), (x4 : Int), (x5 : Int)], 1 ≤ x ∧ x ≤ 10000000) = decide (N ≤ 10000000) := by
        refine decide_eq_decide.mpr ⟨fun z => (z N hN).2, fun z x hx => ⟨Int.le_trans c1 (hle x hx), Int.le_trans (hge x hx) z⟩⟩
      rw [this] at h
      exact h
    · have c1 : ¬ 1 ≤ M := fun z => c (decide_eq_true z)
      rw [decide_eq_false (fun z => c1 (z M hM).1)] at h
      exact h
def sp_started (a : Ad) : Sp := fun vs H Q _ => ∃ (b : Addr) (x0 x1 x2 x3 x4 x5 : Nat), vs = [.ref b] ∧ H b = some (.lst ([(x0 : Int), (x1 : Int), (x2 : Int), (x3 : Int), (x4 : Int), (x5 : Int)].map V.int)) ∧
  ∀ (p dx n e u : Addr) (H' : Hp), Same H H' → H p = none → H e = none → H u = none → ShAt a H' p ⟨Km442.opened x0 x1 x2 x3 x4 x5, [], []⟩ dx n e u [] [] → Q (.ref p) H'
theorem ok_started (T : Tx K mg a) : FnOk P w K mg base CX0 5 a.f_started a.d_started ["numbers"] (sp_started a) := by
  refine T.F_started.ok sc_started (fun vs H Q E h => ?_) (fun cdv A outer s H vs Q E hr h => ?_)
  · obtain ⟨b, x0, x1, x2, x3, x4, x5, rfl, _⟩ := h
    rfl
  · obtain ⟨b, x0, x1, x2, x3, x4, x5, rfl, hb, h⟩ := h
    refine ⟨_, (pss_one (ps_ret (pe_make T.M_Ship (ok_Ship_init T) (hr.mono (by decide)) rfl T.m_Ship T.b_Ship_init .nil pass0 (pa_cons (pe_make T.M_Sizes (ok_Sizes_init T) (hr.mono (by decide)) rfl T.m_Sizes T.b_Sizes_init .nil pass0 (pa_cons (pe_ix ix_list (pv 0) pe_int (fun _ _ => rfl)) (pa_cons (pe_ix ix_list (pv 0) pe_int (fun _ _ => rfl)) (pa_cons (pe_ix ix_list (pv 0) pe_int (fun _ _ => rfl)) (pa_cons (pe_ix ix_list (pv 0) pe_int (fun _ _ => rfl)) (pa_cons (pe_ix ix_list (pv 0) pe_int (fun _ _ => rfl)) (pa_cons (pe_ix ix_list (pv 0) pe_int (fun _ _ => rfl)) pa_nil))))))) pa_nil)))), ?_⟩
    refine ⟨_, rfl, b, _, _, _, rfl, rfl, SqL.of hb, rfl, _, rfl, b, _, _, _, rfl, rfl, SqL.of hb, rfl, _, rfl, b, _, _, _, rfl, rfl, SqL.of hb, rfl, _, rfl, b, _, _, _, rfl, rfl, SqL.of hb, rfl, _, rfl, b, _, _, _, rfl, rfl, SqL.of hb, rfl, _, rfl, b, _, _, _, rfl, rfl, SqL.of hb, rfl, ?_⟩
    intro z dz nz ndz nez
    refine ⟨z, dz, ⟨x0, x1, x2, x3, x4, x5⟩, rfl, upd_same, ⟨rfl, ?_⟩⟩
    rw [upd_upd]
    have s1 : Same H (upd (upd H dz (.own z)) z (.ins a.c_Sizes dz (szF ⟨x0, x1, x2, x3, x4, x5⟩))) := (Same.upd ndz).trans (Same.upd (by rw [upd_ne (Ne.symm nez)]; exact nz))
    have Z1 : SzAt a (upd (upd H dz (.own z)) z (.ins a.c_Sizes dz (szF ⟨x0, x1, x2, x3, x4, x5⟩))) z ⟨x0, x1, x2, x3, x4, x5⟩ := ⟨dz, upd_same⟩
    intro p dx np nd ne
    generalize upd (upd H dz (.own z)) z (.ins a.c_Sizes dz (szF ⟨x0, x1, x2, x3, x4, x5⟩)) = H1 at s1 Z1 np nd ⊢
    have s2 : Same H1 (upd (upd H1 dx (.own p)) p (.ins a.c_Ship dx [])) := (Same.upd nd).trans (Same.upd (by rw [upd_ne (Ne.symm ne)]; exact np))
    refine ⟨p, dx, z, _, rfl, upd_same, Z1.same s2, fun n e u H2 k2 He Hu h1 h2 h3 h4 h5 => ⟨rfl, ?_⟩⟩
    have s3 : Same H1 H2 := Same.made np nd k2
    refine h p dx n e u H2 (s1.trans s3) (s1.free np) ((s1.trans s2).free He) ((s1.trans s2).free Hu) ⟨h1, h2, h3, h4, h5, True.intro, True.intro⟩
end
end Sp
end
section
set_option Elab.async false
set_option linter.all false
set_option maxRecDepth 100000
set_option maxHeartbeats 3900000
namespace Sp
open PySem PySem.Spec PyProof.Rows L2
open Km442 (Leg Ship Desk Call mayMake mayGrey mayBlack greyOf goes bit act)
open Sh (Good GoodD IsCall Made Rem gN bN uN)
theorem iteNT {c A B : Prop} [Decidable c] (hc : ¬ c) (h : A) : if (!decide c) = true then A else B := by
  rw [decide_eq_false hc]
  exact iteT h
/-- the ship as a name holds it: none yet, or a desk; g is the list of answers, c0 the list handed in -/
def RepS (a : Ad) (H : Hp) (g c0 : Addr) (H0 : Hp) : Option Desk → V → Prop
  | none, v => v = .non
  | some d, v => ∃ p dx n e u es us, v = .ref p ∧ ShAt a H p d dx n e u es us ∧ GoodD d ∧ e ≠ g ∧ u ≠ g ∧ ∀ o, H0 c0 = some o → c0 ≠ p ∧ c0 ≠ e ∧ c0 ≠ u
theorem ShAt.putL {a : Ad} {H : Hp} {p g : Addr} {d : Desk} {dx n e u : Addr} {es us : List Addr} {xs ys : List V} (S : ShAt a H p d dx n e u es us) (hg : H g = some (.lst xs)) (n1 : e ≠ g) (n2 : u ≠ g) : ShAt a (upd H g (.lst ys)) p d dx n e u es us := by
  have hx : ∀ b o, b = g → H b = some o → (∃ xs, o = .lst xs) ∨ (∃ C dx n e u, o = .ins C dx (shF n e u)) := fun b o hb ho => by
    subst hb
    rw [hg] at ho
    exact .inl ⟨_, (Option.some.inj ho).symm⟩
  have kp : ∀ b o, H b = some o → ¬ b = g → upd H g (.lst ys) b = some o := fun b o hb nb => by
    rw [upd_ne nb]
    exact hb
  exact ⟨kp _ _ S.sh (ne_of S.sh hg (by intro z; cases z)), StateAt.keep _ hx kp S.now, kp _ _ S.le n1, kp _ _ S.lu n2, S.ne, StatesAt.keep _ hx kp S.past, StatesAt.keep _ hx kp S.fut⟩
theorem RepS.putL {a : Ad} {H H0 : Hp} {g c0 : Addr} {xs ys : List V} {s : Option Desk} {v : V} (hg : H g = some (.lst xs)) (h : RepS a H g c0 H0 s v) : RepS a (upd H g (.lst ys)) g c0 H0 s v := by
  cases s with
  | none => exact h
  | some d =>
    obtain ⟨p, dx, n, e, u, es, us, hv, S, gd, n1, n2, hc⟩ := h
    exact ⟨p, dx, n, e, u, es, us, hv, S.putL hg n1 n2, gd, n1, n2, hc⟩
theorem RepS.same {a : Ad} {H H' H0 : Hp} {g c0 : Addr} {s : Option Desk} {v : V} (k : Same H H') (h : RepS a H g c0 H0 s v) : RepS a H' g c0 H0 s v := by
  cases s with
  | none => exact h
  | some d =>
    obtain ⟨p, dx, n, e, u, es, us, hv, S, r⟩ := h
    exact ⟨p, dx, n, e, u, es, us, hv, ⟨k _ _ S.sh, StateAt.same k S.now, k _ _ S.le, k _ _ S.lu, S.ne, S.past.same k, S.fut.same k⟩, r⟩
theorem cut_mid (ns pre xs r : List Int) (i j : Nat) (h : ns.drop i = pre ++ (xs ++ r)) (hp : pre.length + i = j) : cutV (ns.map V.int) (some ((j : Nat) : Int)) (some ((j + xs.length : Nat) : Int)) = xs.map V.int := by
  unfold cutV
  have hl : (ns.drop i).length = pre.length + (xs.length + r.length) := by rw [h, List.length_append, List.length_append]
  rw [List.length_drop] at hl
  have e1 : HT.sIx (ns.map V.int).length 0 (some ((j : Nat) : Int)) = min j (ns.map V.int).length := HT.sIx_nat _ _ _
  have e2 : HT.sIx (ns.map V.int).length (ns.map V.int).length (some ((j + xs.length : Nat) : Int)) = min (j + xs.length) (ns.map V.int).length := HT.sIx_nat _ _ _
  rw [e1, e2, List.length_map]
  by_cases hi : i ≤ ns.length
  · rw [show min j ns.length = j by omega, show min (j + xs.length) ns.length = j + xs.length by omega, show j + xs.length - j = xs.length by omega, ← List.map_drop, ← List.map_take]
    have : ns.drop j = xs ++ r := by
      rw [← hp, Nat.add_comm, ← List.drop_drop, h, List.drop_left]
    rw [this, List.take_left]
  · have : xs.length = 0 := by omega
    have hx : xs = [] := List.length_eq_zero_iff.mp this
    subst hx
    simp
def widths : List Int := [6, 3, 2, 3, 1, 2, 1, 0, 0, 0, 1, 0, 0, 1, 1, 0, 1, 0, 0, 0, 0, 0, 0]
theorem widths_at {k : Nat} (h : k < 23) : atI (widths.map V.int) (k : Int) = some (V.int (Sh.width k : Nat)) := by
  refine atI_nat ?_
  rw [List.getElem?_map]
  have : ∀ k, k < 23 → widths[k]? = some ((Sh.width k : Nat) : Int) := by decide
  rw [this k h]
  rfl
section
variable {P : Program} {w : World} {K : PySem.W.Frag} {mg : Str → Option Value} {base : Heap} {a : Ad}
def sp_answer_of (a : Ad) : Sp := fun vs H Q _ => ∃ (p b dx n e u : Addr) (es us : List Addr) (d : Desk) (k : Nat) (ns : List Int) (c : Call), vs = [.ref p, .int k, .ref b] ∧ IsCall k ns c ∧ k ≠ 0 ∧ H b = some (.lst (ns.map V.int)) ∧ ShAt a H p d dx n e u es us ∧ GoodD d ∧ Out a H p dx e u d c Q
def spAns (K : PySem.W.Frag) : Sp := fun vs H Q _ => ∃ (b : Addr) (ns : List Int), vs = [.ref b] ∧ SqL K H b (ns.map V.int) ∧ ns.length ≤ 8000 ∧ PyKm442.answers_asked ns = true ∧ ∀ (H' : Hp) (p : Addr), H' p = some (.lst ((PyKm442.answers ns).map V.int)) → Q (.ref p) H'
/-- where a call stands: behind it all is as the document says -/
def Mid (a : Ad) (H0 : Hp) (c0 g : Addr) (done : List Int) (s' : Option Desk) (ans : List Int) (v : V) (q : Addr) (H : Hp) : Prop := H g = some (.lst (done.map V.int)) ∧ q ≠ g ∧ H q = some (.lst (ans.map V.int)) ∧ (∀ o, H0 c0 = some o → H c0 = some o) ∧ RepS a H g c0 H0 s' v
theorem ok_answers_of (T : Tx K mg a) (hW : ∀ H : Hp, SqT K H a.p_WIDTHS (widths.map V.int)) (G : FnOk P w K mg base CX0 9 a.f_answer_of a.d_answer_of ["ship", "number", "numbers"] (sp_answer_of a)) : FnOk P w K mg base CX0 12 a.f_answers a.d_answers ["calls"] (spAns K) := by
  refine T.F_answers.ok sc_answers (fun vs H Q E h => ?_) (fun cdv A outer s H vs Q E hr h => ?_)
  · obtain ⟨b, ns, rfl, _⟩ := h
    rfl
  · obtain ⟨c0, ns, rfl, hS, hlen, hask, h⟩ := h
    obtain ⟨R0, hbig⟩ := Rem.start hask
    refine ⟨_, (pss_cons (ps_set (i := 1) sc_answers.nd rfl (Or.inl rfl) (pe_lst pa_nil))
      (pss_cons (ps_set (i := 2) sc_answers.nd rfl (Or.inl rfl) pe_non)
      (pss_cons (ps_set (i := 3) sc_answers.nd rfl (Or.inl rfl) pe_int)
      (pss_cons (ps_while PassesOwn.never (pt_cmpR op_lt (pv 3) (pe_callB call_len_seq (by rfl) T.no_len PySem.boot_len (pa_cons (pv 0) pa_nil)) (nomark _)) (pss_cons (ps_set (i := 4) sc_answers.nd rfl (Or.inl rfl) (pe_ix ix_list (pv 0) (pv 3) (fun _ _ => rfl)))
      (pss_cons (ps_set (i := 5) sc_answers.nd rfl (Or.inl rfl) (pe_op op_add (pe_op op_add (pv 3) pe_int) (pe_ix ix_tup (pfn T.t_WIDTHS) (pv 4) (fun _ _ => rfl))))
      (pss_cons (ps_set (i := 6) sc_answers.nd rfl (Or.inl rfl) (pe_slice sl_list (pv 0) (po_some (pe_op op_add (pv 3) pe_int)) (po_some (pv 5))))
      (pss_cons (ps_set (i := 3) sc_answers.nd rfl (Or.inl rfl) (pv 5))
      (pss_cons (ps_if (pt_cmpR op_ne (pv 4) (pk T.k_START) (nomark _)) (pss_one (ps_set (i := 7) sc_answers.nd rfl (Or.inl rfl) (pe_call G (hr.mono (by decide)) rfl T.m_answer_of T.F_answer_of.kp T.b_answer_of .nil pass0 (pa_cons (pv 2) (pa_cons (pv 4) (pa_cons (pv 6) pa_nil)))))) (pss_one (ps_if (pt_val (pe_call (ok_may_start T) (hr.mono (by decide)) rfl T.m_may_start T.F_may_start.kp T.b_may_start .nil pass0 (pa_cons (pv 6) pa_nil))) (pss_cons (ps_set (i := 2) sc_answers.nd rfl (Or.inl rfl) (pe_call (ok_started T) (hr.mono (by decide)) rfl T.m_started T.F_started.kp T.b_started .nil pass0 (pa_cons (pv 6) pa_nil)))
      (pss_one (ps_set (i := 7) sc_answers.nd rfl (Or.inl rfl) (pe_lst (pa_cons pe_int pa_nil))))) (pss_one (ps_set (i := 7) sc_answers.nd rfl (Or.inl rfl) (pe_lst (pa_cons (pk T.k_WRONG_NUMBER) pa_nil)))))))
      (pss_cons (ps_expr (pe_bm PySem.F.plainAttrs_list PySem.F.slot_list_append PySem.F.type_list_append mt_append (pv 1) (pa_cons (pe_callB call_len_seq (by rfl) T.no_len PySem.boot_len (pa_cons (pv 7) pa_nil)) pa_nil)))
      (pss_one (ps_expr (pe_bm PySem.F.plainAttrs_list PySem.F.slot_list_extend PySem.F.type_list_extend mt_extend (pv 1) (pa_cons (pv 7) pa_nil)))))))))))
      (pss_one (ps_ret (pv 1))))))), ?_⟩
    refine ⟨Nat.zero_le _, fun g hg => ?_⟩
    have src : ∀ H' : Hp, (∀ o, H c0 = some o → H' c0 = some o) → SqL K H' c0 (ns.map V.int) := fun H' hf => by
      rcases hS with (z | ⟨o, z⟩) | z
      · exact .inl (.inl (hf _ z))
      · exact .inl (.inr ⟨o, hf _ z⟩)
      · exact .inr z
    have hcg : ∀ o, H c0 = some o → c0 ≠ g := fun o ho => ne_of_none ho hg
    refine while_by (fun σ H' => ∃ (i : Nat) (sd : Option Desk) (done out : List Int) (v : V) (o4 o5 o6 o7 : Option V), σ = [some (.ref c0), some (.ref g), some v, some (.int i), o4, o5, o6, o7] ∧ i ≤ ns.length ∧ Rem sd (ns.drop i) out ∧ done ++ out = PyKm442.answers ns ∧
      H' g = some (.lst (done.map V.int)) ∧ (∀ o, H c0 = some o → H' c0 = some o) ∧ RepS a H' g c0 H sd v) (fun σ _ => match σ with | [_, _, _, some (.int i), _, _, _, _] => ns.length - i.toNat | _ => 0)
      ⟨0, none, [], PyKm442.answers ns, .non, none, none, none, none, rfl, Nat.zero_le _, R0, rfl, upd_same, fun o ho => by rw [upd_ne (hcg o ho)]; exact ho, rfl⟩ ?_ ?_
    · rintro σ H1 ⟨i, sd, done, out, v, o4, o5, o6, o7, rfl, hi, R, ho, hg1, hf1, rep⟩
      refine ⟨_, rfl, _, rfl, c0, _, rfl, .inl (src H1 hf1), _, _, rfl, rfl, _, rfl, ?_⟩
      rw [List.length_map]
      refine ite2 (fun c => ?_) (fun c => ?_)
      · have hlt : i < ns.length := by
          have : (i : Int) < (ns.length : Int) := of_decide_eq_true c
          omega
        have ed : ns.drop i = ns[i] :: ns.drop (i + 1) := List.drop_eq_getElem_cons hlt
        rw [ed] at R
        obtain ⟨k, xs, r, x, s', ans, out', ek, et, hc, hm, eo, R'⟩ := R.cons
        have hk := hc.lt
        have hw := hc.len
        have hd : ns.drop i = [(k : Int)] ++ (xs ++ r) := by rw [ed, ek, et]; rfl
        have hat : atI (ns.map V.int) (i : Int) = some (V.int k) := by
          refine atI_nat ?_
          rw [List.getElem?_map, List.getElem?_eq_getElem hlt, ek]
          rfl
        have hln : i + 1 + xs.length ≤ ns.length := by
          have := congrArg List.length hd
          rw [List.length_drop, List.length_append, List.length_append] at this
          simp at this
          omega
        refine ⟨_, rfl, _, rfl, c0, _, _, _, rfl, rfl, src H1 hf1, hat, ?_⟩
        refine ⟨_, rfl, _, _, rfl, rfl, _, rfl, a.p_WIDTHS, _, _, _, rfl, rfl, hW H1, widths_at hk, _, _, rfl, rfl, ?_⟩
        have eb : ((i : Int) + 1) + ((Sh.width k : Nat) : Int) = ((i + 1 + xs.length : Nat) : Int) := by rw [hw]; omega
        show gName 5 (V.int ((i : Int) + 1 + ((Sh.width k : Nat) : Int))) _ _ _
        rw [eb]
        have e1 : (i : Int) + 1 = ((i + 1 : Nat) : Int) := by omega
        refine ⟨_, rfl, _, rfl, _, _, rfl, rfl, ((i + 1 : Nat) : Int), (by rw [← e1]), _, rfl, ((i + 1 + xs.length : Nat) : Int), rfl, c0, _, rfl, src H1 hf1, fun b hb => ?_⟩
        rw [cut_mid ns [(k : Int)] xs r i (i + 1) hd (by show 1 + i = i + 1; omega)]
        refine ⟨_, rfl, ?_⟩
        have s2 : Same H1 (upd H1 b (.lst (xs.map V.int))) := Same.upd hb
        have hb2 : upd H1 b (.lst (xs.map V.int)) b = some (.lst (xs.map V.int)) := upd_same
        have hbg : b ≠ g := fun z => by rw [z, hg1] at hb; cases hb
        have hg2 := s2 _ _ hg1
        have hf2 : ∀ o, H c0 = some o → upd H1 b (.lst (xs.map V.int)) c0 = some o := fun o z => s2 _ _ (hf1 o z)
        have rep2 := rep.same s2
        have hsz : done.length + (ans.length + 1) ≤ 10000000 := by
          have := congrArg List.length ho
          rw [eo, List.length_append, List.length_cons, List.length_append] at this
          omega
        have hdr : ns.drop (i + 1 + xs.length) = r := by
          have e := List.drop_drop (i := 1 + xs.length) (j := i) (l := ns)
          rw [show i + 1 + xs.length = i + (1 + xs.length) by omega, ← e, hd, ← List.append_assoc]
          exact List.drop_left' (by simp; omega)
        have hout : (done ++ (((ans.length : Nat) : Int) :: ans)) ++ out' = PyKm442.answers ns := by
          rw [← ho, eo, List.append_assoc, List.cons_append]
        show tSeq _ _ _ _ (upd H1 b (.lst (xs.map V.int)))
        generalize upd H1 b (.lst (xs.map V.int)) = H2 at hb2 hg2 hf2 rep2 ⊢
        clear rep hg1 hf1 s2 R
        by_cases k0 : k = 0
        · subst k0
          cases hc with
          | start x0 x1 x2 x3 x4 x5 =>
            have mm : (Km442.okStart x0 x1 x2 x3 x4 x5 = true → s' = some ⟨Km442.opened x0 x1 x2 x3 x4 x5, [], []⟩ ∧ ans = [0]) ∧ (¬ Km442.okStart x0 x1 x2 x3 x4 x5 = true → s' = sd ∧ ans = [-22]) := by
              generalize hX : Call.start x0 x1 x2 x3 x4 x5 = X at hm
              cases hm with
              | call d y =>
                subst hX
                show (_ → some (ite (α := Desk × Km442.Ans) _ _ _).1 = _ ∧ Km442Neutral.told (ite (α := Desk × Km442.Ans) _ _ _).2 = _) ∧ (_ → some (ite (α := Desk × Km442.Ans) _ _ _).1 = _ ∧ Km442Neutral.told (ite (α := Desk × Km442.Ans) _ _ _).2 = _)
                refine ⟨fun yes => ?_, fun no => ?_⟩
                all_goals try have z := yes
                all_goals try have z := no
                · rw [if_neg (by rw [z]; decide)]
                  exact ⟨rfl, rfl⟩
                · rw [if_pos (by simpa using z)]
                  exact ⟨rfl, rfl⟩
              | no _ _ _ _ _ _ hno =>
                cases hX
                exact ⟨fun z => absurd (z.symm.trans hno) (by decide), fun _ => ⟨rfl, rfl⟩⟩
              | first _ _ _ _ _ _ hyes =>
                cases hX
                exact ⟨fun _ => ⟨rfl, rfl⟩, fun z => absurd hyes z⟩
            refine ⟨_, rfl, rfl, _, rfl, iteNS rfl ?_⟩
            refine ⟨_, rfl, b, x0, x1, x2, x3, x4, x5, rfl, hb2, _, rfl, ?_⟩
            refine ite2 (fun cc => ?y1) (fun cc => ?y2)
            case' y1 =>
              obtain ⟨es', ea⟩ := mm.1 cc
              subst es' ea
              refine ⟨_, rfl, b, x0, x1, x2, x3, x4, x5, rfl, hb2, fun p dx n e u H3 s3 Hp He Hu S3 => ?_⟩
              refine ⟨(by show 1 ≤ sizeLine; decide), fun q hq => ?_⟩
              obtain ⟨m1, m2, m3, m4, m5⟩ : Mid a H c0 g done (some ⟨Km442.opened x0 x1 x2 x3 x4 x5, [], []⟩) [0] (.ref p) q (upd H3 q (.lst [V.int 0])) := by
                have s4 : Same H3 (upd H3 q (.lst [V.int 0])) := Same.upd hq
                have hg3 := s3 _ _ hg2
                refine ⟨s4 _ _ hg3, fun z => (by rw [z, hg3] at hq; cases hq), upd_same, fun o z => s4 _ _ (s3 _ _ (hf2 o z)), ?_⟩
                refine RepS.same s4 ⟨p, dx, n, e, u, [], [], rfl, S3, Sh.goodOpened x0 x1 x2 x3 x4 x5, fun z => (by rw [z, hg2] at He; cases He), fun z => (by rw [z, hg2] at Hu; cases Hu), fun o z => ⟨fun y => (by rw [← y, hf2 o z] at Hp; cases Hp), fun y => (by rw [← y, hf2 o z] at He; cases He), fun y => (by rw [← y, hf2 o z] at Hu; cases Hu)⟩⟩
              generalize upd H3 q (.lst [V.int 0]) = HH at m1 m3 m4 m5 ⊢
              generalize hvv : V.ref p = vv at m5 ⊢
            case' y2 =>
              obtain ⟨es', ea⟩ := mm.2 cc
              subst es' ea
              refine ⟨(by show 1 ≤ sizeLine; decide), fun q hq => ?_⟩
              obtain ⟨m1, m2, m3, m4, m5⟩ : Mid a H c0 g done s' [-22] v q (upd H2 q (.lst [V.int (-22)])) := by
                have s4 : Same H2 (upd H2 q (.lst [V.int (-22)])) := Same.upd hq
                exact ⟨s4 _ _ hg2, fun z => (by rw [z, hg2] at hq; cases hq), upd_same, fun o z => s4 _ _ (hf2 o z), rep2.same s4⟩
              generalize upd H2 q (.lst [V.int (-22)]) = HH at m1 m3 m4 m5 ⊢
              generalize hvv : v = vv at m5 ⊢
            all_goals
              refine ⟨_, rfl, .inl ⟨rfl, _, SqL.of m1⟩, _, rfl, q, _, rfl, .inl (SqL.of m3), g, _, _, rfl, rfl, m1, (by rw [List.length_map]; exact Nat.lt_of_le_of_lt (by omega) (show 10000000 < sizeLine by decide)), ?_⟩
              refine ⟨_, rfl, .inl ⟨rfl, _, SqL.of upd_same⟩, _, rfl, g, q, _, _, rfl, rfl, upd_same, (by rw [upd_ne m2]; exact m3), (by rw [List.length_append, List.length_map, List.length_map, List.length_singleton]; exact Nat.le_trans (by omega) (show 10000000 ≤ sizeLine by decide)), ?_⟩
              rw [upd_upd]
              refine ⟨⟨_, _, _, out', vv, _, _, _, _, rfl, hln, (by rw [hdr]; exact R'), hout, ?_, fun o z => (by rw [upd_ne (hcg o z)]; exact m4 o z), RepS.putL m1 m5⟩, ?_⟩
              · rw [upd_same]; simp
              · show ns.length - (((i + 1 + _ : Nat) : Int)).toNat < ns.length - ((i : Int)).toNat
                omega
        · obtain ⟨d, e1, e2, e3⟩ : ∃ d, sd = some d ∧ s' = some (act d x).1 ∧ ans = Km442Neutral.told (act d x).2 := by
            cases hm with
            | call d y => exact ⟨d, rfl, rfl, rfl⟩
            | no => exact absurd (by cases hc; rfl) k0
            | first => exact absurd (by cases hc; rfl) k0
          subst e1 e2 e3
          obtain ⟨p, dx, n, e, u, es, us, rfl, S, gd, n1, n2, n3⟩ := rep2
          refine ⟨_, rfl, rfl, _, rfl, iteNT (vint_ne (by omega)) ?_⟩
          refine ⟨_, rfl, _, rfl, _, rfl, p, b, dx, n, e, u, es, us, d, k, xs, x, rfl, hc, k0, hb2, S, gd, fun q HH nq hq A3 => ?_⟩
          obtain ⟨m1, m2, m3, m4, m5⟩ : Mid a H c0 g done (some (act d x).1) (Km442Neutral.told (act d x).2) (.ref p) q HH := by
            obtain ⟨n', e', u', es', us', S3, h1, h2, h3⟩ := A3
            refine ⟨h3 _ _ hg2 (ne_of hg2 S.sh (by intro z; cases z)) (Ne.symm n1) (Ne.symm n2), fun z => (by rw [z, hg2] at nq; cases nq), hq, fun o z => h3 _ _ (hf2 o z) (n3 o z).1 (n3 o z).2.1 (n3 o z).2.2, ⟨p, dx, n', e', u', es', us', rfl, S3, gd.act x, ?_, ?_, fun o z => ⟨(n3 o z).1, ?_, ?_⟩⟩⟩
            · rcases h1 with h1 | h1
              · rw [h1]; exact n1
              · exact fun z => (by rw [z, hg2] at h1; cases h1)
            · rcases h2 with h2 | h2
              · rw [h2]; exact n2
              · exact fun z => (by rw [z, hg2] at h2; cases h2)
            · rcases h1 with h1 | h1
              · rw [h1]; exact (n3 o z).2.1
              · exact fun y => (by rw [← y, hf2 o z] at h1; cases h1)
            · rcases h2 with h2 | h2
              · rw [h2]; exact (n3 o z).2.2
              · exact fun y => (by rw [← y, hf2 o z] at h2; cases h2)
          generalize hvv : V.ref p = vv at m5 ⊢
          refine ⟨_, rfl, .inl ⟨rfl, _, SqL.of m1⟩, _, rfl, q, _, rfl, .inl (SqL.of m3), g, _, _, rfl, rfl, m1, (by rw [List.length_map]; exact Nat.lt_of_le_of_lt (by omega) (show 10000000 < sizeLine by decide)), ?_⟩
          refine ⟨_, rfl, .inl ⟨rfl, _, SqL.of upd_same⟩, _, rfl, g, q, _, _, rfl, rfl, upd_same, (by rw [upd_ne m2]; exact m3), (by rw [List.length_append, List.length_map, List.length_map, List.length_singleton]; exact Nat.le_trans (by omega) (show 10000000 ≤ sizeLine by decide)), ?_⟩
          rw [upd_upd]
          refine ⟨⟨_, _, _, out', vv, _, _, _, _, rfl, hln, (by rw [hdr]; exact R'), hout, ?_, fun o z => (by rw [upd_ne (hcg o z)]; exact m4 o z), RepS.putL m1 m5⟩, ?_⟩
          · rw [upd_same]; simp
          · show ns.length - (((i + 1 + _ : Nat) : Int)).toNat < ns.length - ((i : Int)).toNat
            omega
      · have : i = ns.length := by
          have : ¬ (i : Int) < (ns.length : Int) := fun z => c (decide_eq_true z)
          omega
        rw [this, List.drop_length] at R
        have e0 := R.nil
        subst e0
        rw [List.append_nil] at ho
        rw [ho] at hg1
        exact ⟨_, rfl, h H1 g hg1⟩
    · intro σ H Q Q' hq hc
      obtain ⟨x, e1, y, e2, p, ys, e3, e4, i, j, e5, e6, cc, e7, q⟩ := hc
      exact ⟨x, e1, y, e2, p, ys, e3, e4, i, j, e5, e6, cc, e7, hq _ _ q⟩
end
end Sp
end
section
set_option Elab.async false
set_option linter.all false
set_option maxRecDepth 100000
set_option maxHeartbeats 3900000
namespace Sp
open PySem PySem.Spec PyProof.Rows L2
open Km442 (Leg Ship Desk Call mayMake mayGrey mayBlack greyOf goes bit act)
open Sh (Good GoodD IsCall gN bN uN)
/-! ### the other calls that ask -/
theorem LegsAt.take {a : Ad} {H : Hp} : ∀ {b : Nat} {ps : List Addr} {l : List Leg} (n : Nat), LegsAt a H b ps l → LegsAt a H b (ps.take n) (l.take n)
  | _, _, _, 0, _ => True.intro
  | _, [], [], _ + 1, h => h
  | _, _ :: _, _ :: _, n + 1, h => ⟨h.1, LegsAt.take n h.2⟩
  | _, [], _ :: _, _ + 1, h => h.elim
  | _, _ :: _, [], _ + 1, h => h.elim
theorem cut_first (xs : List V) (k : Nat) (h : k < xs.length) : cutV xs none (some ((k : Nat) : Int)) = xs.take k ∧ HT.sIx xs.length xs.length (some ((k : Nat) : Int)) = k := by
  have e1 : HT.sIx xs.length 0 none = 0 := rfl
  have e2 : HT.sIx xs.length xs.length (some ((k : Nat) : Int)) = k := by rw [HT.sIx_nat]; omega
  refine ⟨?_, e2⟩
  unfold cutV
  rw [e1, e2]
  rfl
theorem end_take (l : List Leg) (k : Nat) {x : Leg} (h : l[k]? = some x) : Sh.endOf (l.take (k + 1)) = Sh.endOf (l.take k) + x.hours := by
  obtain ⟨hil, ey⟩ := List.getElem?_eq_some_iff.mp h
  rw [List.take_succ_eq_append_getElem hil, ey, Sh.endOf_snoc]
section
variable {P : Program} {w : World} {K : PySem.W.Frag} {mg : Str → Option Value} {base : Heap} {a : Ad}
def wantsAns (s : Ship) : List Int := [(s.wants : Int), ((greyOf s.wants : Nat) : Int), ((s.wants - greyOf s.wants : Nat) : Int)]
theorem ok_wants (T : Tx K mg a) : FnOk P w K mg base CX0 2 a.f_wants a.d_wants ["state"] (spAsk a wantsAns) := by
  refine T.F_wants.ok sc_wants (fun vs H Q E h => ?_) (fun cdv A outer s H vs Q E hr h => ?_)
  · obtain ⟨p, r, rfl, _⟩ := h
    rfl
  · obtain ⟨p, r, rfl, S, g, h⟩ := h
    refine ⟨_, (pss_cons (ps_set (i := 1) sc_wants.nd rfl (Or.inl rfl) (pe_call (ok_wanted T) (hr.mono (by decide)) rfl T.m_wanted T.F_wanted.kp T.b_wanted .nil pass0 (pa_cons (pv 0) pa_nil)))
      (pss_cons (ps_set (i := 2) sc_wants.nd rfl (Or.inl rfl) (pe_call (ok_grey_part T) (hr.mono (by decide)) rfl T.m_grey_part T.F_grey_part.kp T.b_grey_part .nil pass0 (pa_cons (pv 1) pa_nil)))
      (pss_one (ps_ret (pe_lst (pa_cons (pv 1) (pa_cons (pv 2) (pa_cons (pe_op op_sub (pv 1) (pv 2)) pa_nil)))))))), ?_⟩
    refine ⟨_, rfl, p, rawOf r, rfl, S, (by show (0 : Int) ≤ (r.persons : Int); omega), (by have := g.persons; show (r.persons : Int) ≤ 5000; omega), ?_⟩
    refine ⟨_, rfl, _, rfl, ?_⟩
    refine ⟨_, rfl, _, rfl, _, rfl, _, rfl, _, _, rfl, rfl, (by show 3 ≤ sizeLine; decide), fun l hl' => ?_⟩
    refine h l _ (Same.upd hl') hl' ?_
    rw [upd_same]
    unfold wantsAns
    have hw : (r.persons : Int) * (r.uses : Int) = (r.wants : Int) := by
      unfold Km442.Ship.wants
      exact (Int.natCast_mul _ _).symm
    have g9 : (r.wants : Int) * 9 / 10 = ((greyOf r.wants : Nat) : Int) := by
      unfold greyOf
      omega
    have g10 : greyOf r.wants ≤ r.wants := by
      unfold greyOf
      omega
    show some (HO.lst [V.int ((r.persons : Int) * (r.uses : Int)), V.int ((r.persons : Int) * (r.uses : Int) * 9 / 10), V.int ((r.persons : Int) * (r.uses : Int) - (r.persons : Int) * (r.uses : Int) * 9 / 10)]) = _
    rw [hw, g9, ← Int.ofNat_sub g10]
    rfl
def whereAns (s : Ship) (t : Nat) : List Int := if 10000 < t then [-22] else [((s.leg t).miles : Int), ((s.leg t).knots : Int), ((bit (mayMake (s.leg t)) : Nat) : Int), ((bit (mayGrey (s.leg t)) : Nat) : Int), ((bit (mayBlack (s.leg t)) : Nat) : Int)]
theorem ok_where (T : Tx K mg a) : FnOk P w K mg base CX0 4 a.f_where a.d_where ["state", "t"] (spAskN a whereAns) := by
  refine T.F_where.ok sc_where (fun vs H Q E h => ?_) (fun cdv A outer s H vs Q E hr h => ?_)
  · obtain ⟨p, r, n, rfl, _⟩ := h
    rfl
  · obtain ⟨p, r, n, rfl, ⟨dx, z, t, ps, S⟩, g, h⟩ := h
    refine ⟨_, (pss_cons (ps_if (pt_cmpR op_gt (pv 1) (pk T.k_LAST_HOUR) (nomark _)) (pss_one (ps_ret (pe_lst (pa_cons (pk T.k_WRONG_NUMBER) pa_nil)))) pss_nil)
      (pss_cons (ps_set (i := 2) sc_where.nd rfl (Or.inl rfl) (pe_call (ok_leg_in T) (hr.mono (by decide)) rfl T.m_leg_in T.F_leg_in.kp T.b_leg_in .nil pass0 (pa_cons (pe_fld (pv 0) rfl) (pa_cons (pv 1) pa_nil))))
      (pss_one (ps_ret (pe_lst (pa_cons (pe_fld (pv 2) rfl) (pa_cons (pe_fld (pv 2) rfl) (pa_cons (pe_call (ok_may_make T) (hr.mono (by decide)) rfl T.m_may_make T.F_may_make.kp T.b_may_make .nil pass0 (pa_cons (pv 2) pa_nil)) (pa_cons (pe_call (ok_may_let_grey T) (hr.mono (by decide)) rfl T.m_may_let_grey T.F_may_let_grey.kp T.b_may_let_grey .nil pass0 (pa_cons (pv 2) pa_nil)) (pa_cons (pe_call (ok_may_let_black T) (hr.mono (by decide)) rfl T.m_may_let_black T.F_may_let_black.kp T.b_may_let_black .nil pass0 (pa_cons (pv 2) pa_nil)) pa_nil)))))))))), ?_⟩
    unfold whereAns at h
    refine ⟨_, rfl, _, _, rfl, rfl, _, rfl, ?_⟩
    refine ite2 (fun c => ?_) (fun c => ?_)
    · have c1 : (10000 : Int) < n := of_decide_eq_true c
      rw [if_pos (by omega)] at h
      exact ⟨by show 1 ≤ sizeLine; decide, fun q hq => h q _ (Same.upd hq) hq upd_same⟩
    · have c1 : ¬ (10000 : Int) < n := fun z => c (decide_eq_true z)
      rw [if_neg (by omega)] at h
      refine ⟨_, rfl, p, a.c_State, dx, _, _, rfl, S.st, T.c_State, T.n_State_legs, rfl, _, rfl, t, ps, r.legs, n, rfl, S.tu, S.lg, fun q H1 e s1 L => ?_⟩
      obtain ⟨dl, hl⟩ := id L
      refine ⟨_, rfl, q, a.c_Leg, dl, _, _, rfl, hl, T.c_Leg, T.n_Leg_miles, rfl, _, rfl, q, a.c_Leg, dl, _, _, rfl, hl, T.c_Leg, T.n_Leg_knots, rfl, ?_⟩
      refine ⟨_, rfl, q, e, _, _, rfl, L, _, rfl, q, e, _, _, rfl, L, _, rfl, q, e, _, _, rfl, L, (by show 5 ≤ sizeLine; decide), fun l hl' => ?_⟩
      refine h l _ (s1.trans (Same.upd hl')) (s1.free hl') ?_
      rw [upd_same]
      have m1 := may_make (r.leg n)
      have m2 := may_grey (r.leg n)
      have m3 := may_black (r.leg n)
      show some (HO.lst [V.int ((r.leg n).miles : Int), V.int ((r.leg n).knots : Int), V.int (b01 (mayM ((r.leg n).miles : Int))), V.int (b01 (mayG ((r.leg n).miles : Int) ((r.leg n).knots : Int))), V.int (b01 (mayB ((r.leg n).miles : Int) ((r.leg n).knots : Int)))]) = _
      rw [m1, m2, m3, b01_bit, b01_bit, b01_bit]
      rfl
def lookAns (s : Ship) (k : Nat) : List Int := match s.legs[k]? with
  | none => [-2]
  | some x => [(x.hours : Int), (x.miles : Int), (x.knots : Int)]
theorem ok_look (T : Tx K mg a) : FnOk P w K mg base CX0 2 a.f_look a.d_look ["state", "k"] (spAskN a lookAns) := by
  refine T.F_look.ok sc_look (fun vs H Q E h => ?_) (fun cdv A outer s H vs Q E hr h => ?_)
  · obtain ⟨p, r, n, rfl, _⟩ := h
    rfl
  · obtain ⟨p, r, n, rfl, ⟨dx, z, t, ps, S⟩, g, h⟩ := h
    refine ⟨_, (pss_cons (ps_if (pt_cmpR op_ge (pv 1) (pe_callB call_len_seq (by rfl) T.no_len PySem.boot_len (pa_cons (pe_fld (pv 0) rfl) pa_nil)) (nomark _)) (pss_one (ps_ret (pe_lst (pa_cons (pk T.k_NONE_THERE) pa_nil)))) pss_nil)
      (pss_cons (ps_set (i := 2) sc_look.nd rfl (Or.inl rfl) (pe_ix ix_tup (pe_fld (pv 0) rfl) (pv 1) (fun _ _ => rfl)))
      (pss_cons (ps_set (i := 3) sc_look.nd rfl (Or.inl rfl) (pe_call (ok_way_end T) (hr.mono (by decide)) rfl T.m_way_end T.F_way_end.kp T.b_way_end .nil pass0 (pa_cons (pe_slice sl_tup (pe_fld (pv 0) rfl) po_none (po_some (pv 1))) pa_nil)))
      (pss_one (ps_ret (pe_lst (pa_cons (pe_op op_sub (pe_fld (pv 2) rfl) (pv 3)) (pa_cons (pe_fld (pv 2) rfl) (pa_cons (pe_fld (pv 2) rfl) pa_nil))))))))), ?_⟩
    unfold lookAns at h
    have hn := S.lg.len
    have hn' : ps.length = r.legs.length := hn
    refine ⟨_, rfl, _, rfl, p, a.c_State, dx, _, _, rfl, S.st, T.c_State, T.n_State_legs, rfl, t, _, rfl, .inr (SqT.of S.tu), _, _, rfl, rfl, _, rfl, ?_⟩
    rw [List.length_map]
    refine ite2 (fun c => ?_) (fun c => ?_)
    · have c1 : (ps.length : Int) ≤ (n : Int) := of_decide_eq_true c
      rw [List.getElem?_eq_none (by omega)] at h
      exact ⟨by show 1 ≤ sizeLine; decide, fun q hq => h q _ (Same.upd hq) hq upd_same⟩
    · have c1 : ¬ (ps.length : Int) ≤ (n : Int) := fun z => c (decide_eq_true z)
      have hlt : n < ps.length := by omega
      obtain ⟨q, hq⟩ : ∃ q, ps[n]? = some q := ⟨_, List.getElem?_eq_getElem hlt⟩
      obtain ⟨x, hx, dg, hL⟩ := S.lg.get hq
      rw [Nat.zero_add] at hL
      have hx' : r.legs[n]? = some x := hx
      have et : Sh.endOf ((rawOf r).legs.take (n + 1)) = Sh.endOf (r.legs.take n) + x.hours := end_take r.legs n hx'
      rw [et] at hL
      rw [hx'] at h
      have hat : atI (ps.map V.ref) (n : Int) = some (V.ref q) := by
        refine atI_nat ?_
        rw [List.getElem?_map, hq]
        rfl
      refine ⟨_, rfl, p, a.c_State, dx, _, _, rfl, S.st, T.c_State, T.n_State_legs, rfl, _, rfl, t, _, _, V.ref q, rfl, rfl, SqT.of S.tu, hat, ?_⟩
      have cf := cut_first (ps.map V.ref) n (by rw [List.length_map]; exact hlt)
      refine ⟨_, rfl, p, a.c_State, dx, _, _, rfl, S.st, T.c_State, T.n_State_legs, rfl, _, rfl, (n : Int), rfl, t, _, rfl, SqT.of S.tu, ?_, fun t' ht' => ?_⟩
      · rintro ⟨_, e⟩
        rw [cf.2, List.length_map] at e
        omega
      rw [cf.1]
      have s1 : Same H (upd H t' (.tup ((ps.map V.ref).take n))) := Same.upd ht'
      have ht2 : upd H t' (.tup ((ps.map V.ref).take n)) t' = some (.tup ((ps.take n).map V.ref)) := by rw [upd_same, List.map_take]
      have hL2 := s1 _ _ hL
      have lg2 := (S.lg.same s1).take n
      generalize upd H t' (.tup ((ps.map V.ref).take n)) = H1 at s1 ht2 hL2 lg2 ⊢
      refine ⟨t', ps.take n, r.legs.take n, rfl, ht2, lg2, ?_⟩
      refine ⟨_, rfl, q, a.c_Leg, dg, _, _, rfl, hL2, T.c_Leg, T.n_Leg_end, rfl, _, rfl, _, _, rfl, rfl, _, rfl, q, a.c_Leg, dg, _, _, rfl, hL2, T.c_Leg, T.n_Leg_miles, rfl, _, rfl, q, a.c_Leg, dg, _, _, rfl, hL2, T.c_Leg, T.n_Leg_knots, rfl, (by show 3 ≤ sizeLine; decide), fun l hl' => ?_⟩
      refine h l _ (s1.trans (Same.upd hl')) (s1.free hl') ?_
      rw [upd_same]
      show some (HO.lst [V.int (((Sh.endOf (r.legs.take n) + x.hours : Nat) : Int) - ((Sh.endOf (r.legs.take n) : Nat) : Int)), V.int (x.miles : Int), V.int (x.knots : Int)]) = _
      rw [show ((Sh.endOf (r.legs.take n) + x.hours : Nat) : Int) - ((Sh.endOf (r.legs.take n) : Nat) : Int) = (x.hours : Int) by omega]
      rfl
def endAns (s : Ship) : List Int := [(s.end_ : Int), ((s.end_ - s.hour : Nat) : Int)]
theorem ok_end (T : Tx K mg a) : FnOk P w K mg base CX0 2 a.f_end a.d_end ["state"] (spAsk a endAns) := by
  refine T.F_end.ok sc_end (fun vs H Q E h => ?_) (fun cdv A outer s H vs Q E hr h => ?_)
  · obtain ⟨p, r, rfl, _⟩ := h
    rfl
  · obtain ⟨p, r, rfl, ⟨dx, z, t, ps, S⟩, g, h⟩ := h
    refine ⟨_, (pss_cons (ps_set (i := 1) sc_end.nd rfl (Or.inl rfl) (pe_call (ok_way_end T) (hr.mono (by decide)) rfl T.m_way_end T.F_way_end.kp T.b_way_end .nil pass0 (pa_cons (pe_fld (pv 0) rfl) pa_nil)))
      (pss_one (ps_ret (pe_lst (pa_cons (pv 1) (pa_cons (pe_callB (call_max2 rfl) (by rfl) T.no_max (by rfl) (pa_cons pe_int (pa_cons (pe_op op_sub (pv 1) (pe_fld (pv 0) rfl)) pa_nil))) pa_nil)))))), ?_⟩
    refine ⟨_, rfl, p, a.c_State, dx, _, _, rfl, S.st, T.c_State, T.n_State_legs, rfl, t, ps, r.legs, rfl, S.tu, S.lg, ?_⟩
    refine ⟨_, rfl, _, rfl, _, rfl, p, a.c_State, dx, _, _, rfl, S.st, T.c_State, T.n_State_hour, rfl, _, _, rfl, rfl, _, _, rfl, (by show 2 ≤ sizeLine; decide), fun l hl' => ?_⟩
    refine h l _ (Same.upd hl') hl' ?_
    rw [upd_same]
    unfold endAns
    have ee : r.end_ = Sh.endOf r.legs := Sh.end_eq r
    rw [ee]
    show some (HO.lst [V.int ((Sh.endOf r.legs : Nat) : Int), V.int (if ((Sh.endOf r.legs : Nat) : Int) - (r.hour : Int) > 0 then ((Sh.endOf r.legs : Nat) : Int) - (r.hour : Int) else 0)]) = _
    rw [show (if ((Sh.endOf r.legs : Nat) : Int) - (r.hour : Int) > 0 then ((Sh.endOf r.legs : Nat) : Int) - (r.hour : Int) else 0) = ((Sh.endOf r.legs - r.hour : Nat) : Int) by omega]
    rfl
def tanksAns (s : Ship) : List Int := [(s.fresh : Int), (s.freshMost : Int), (s.grey : Int), (s.greyMost : Int), (s.black : Int), (s.blackMost : Int)]
theorem ok_tanks (T : Tx K mg a) : FnOk P w K mg base CX0 1 a.f_tanks a.d_tanks ["state"] (spAsk a tanksAns) := by
  refine T.F_tanks.ok sc_tanks (fun vs H Q E h => ?_) (fun cdv A outer s H vs Q E hr h => ?_)
  · obtain ⟨p, r, rfl, _⟩ := h
    rfl
  · obtain ⟨p, r, rfl, ⟨dx, z, t, ps, S⟩, g, h⟩ := h
    refine ⟨_, (pss_cons (ps_set (i := 1) sc_tanks.nd rfl (Or.inl rfl) (pe_fld (pv 0) rfl))
      (pss_one (ps_ret (pe_lst (pa_cons (pe_fld (pv 0) rfl) (pa_cons (pe_fld (pv 1) rfl) (pa_cons (pe_fld (pv 0) rfl) (pa_cons (pe_fld (pv 1) rfl) (pa_cons (pe_fld (pv 0) rfl) (pa_cons (pe_fld (pv 1) rfl) pa_nil)))))))))), ?_⟩
    obtain ⟨dz, hz⟩ := S.sz
    refine ⟨_, rfl, p, a.c_State, dx, _, _, rfl, S.st, T.c_State, T.n_State_sizes, rfl, ?_⟩
    refine ⟨_, rfl, p, a.c_State, dx, _, _, rfl, S.st, T.c_State, T.n_State_fresh, rfl, _, rfl, z, a.c_Sizes, dz, _, _, rfl, hz, T.c_Sizes, T.n_Sizes_fresh, rfl, ?_⟩
    refine ⟨_, rfl, p, a.c_State, dx, _, _, rfl, S.st, T.c_State, T.n_State_grey, rfl, _, rfl, z, a.c_Sizes, dz, _, _, rfl, hz, T.c_Sizes, T.n_Sizes_grey, rfl, ?_⟩
    refine ⟨_, rfl, p, a.c_State, dx, _, _, rfl, S.st, T.c_State, T.n_State_black, rfl, _, rfl, z, a.c_Sizes, dz, _, _, rfl, hz, T.c_Sizes, T.n_Sizes_black, rfl, (by show 6 ≤ sizeLine; decide), fun l hl' => ?_⟩
    exact h l _ (Same.upd hl') hl' upd_same
def sumsAns (s : Ship) : List Int := [(s.made : Int), (s.used : Int), (s.goneGrey : Int), (s.goneBlack : Int), (s.ashore : Int), (s.lacked : Int)]
theorem ok_sums (T : Tx K mg a) : FnOk P w K mg base CX0 1 a.f_sums a.d_sums ["state"] (spAsk a sumsAns) := by
  refine T.F_sums.ok sc_sums (fun vs H Q E h => ?_) (fun cdv A outer s H vs Q E hr h => ?_)
  · obtain ⟨p, r, rfl, _⟩ := h
    rfl
  · obtain ⟨p, r, rfl, ⟨dx, z, t, ps, S⟩, g, h⟩ := h
    refine ⟨_, (pss_one (ps_ret (pe_lst (pa_cons (pe_fld (pv 0) rfl) (pa_cons (pe_fld (pv 0) rfl) (pa_cons (pe_fld (pv 0) rfl) (pa_cons (pe_fld (pv 0) rfl) (pa_cons (pe_fld (pv 0) rfl) (pa_cons (pe_fld (pv 0) rfl) pa_nil))))))))), ?_⟩
    refine ⟨_, rfl, p, a.c_State, dx, _, _, rfl, S.st, T.c_State, T.n_State_taken_in, rfl, _, rfl, p, a.c_State, dx, _, _, rfl, S.st, T.c_State, T.n_State_used, rfl, ?_⟩
    refine ⟨_, rfl, p, a.c_State, dx, _, _, rfl, S.st, T.c_State, T.n_State_grey_gone, rfl, _, rfl, p, a.c_State, dx, _, _, rfl, S.st, T.c_State, T.n_State_black_gone, rfl, ?_⟩
    refine ⟨_, rfl, p, a.c_State, dx, _, _, rfl, S.st, T.c_State, T.n_State_ashore, rfl, _, rfl, p, a.c_State, dx, _, _, rfl, S.st, T.c_State, T.n_State_lacked, rfl, (by show 6 ≤ sizeLine; decide), fun l hl' => ?_⟩
    exact h l _ (Same.upd hl') hl' upd_same
end
end Sp
end
section
set_option Elab.async false
set_option linter.all false
set_option maxRecDepth 100000
set_option maxHeartbeats 3900000
namespace Sp
open PySem PySem.Spec PyProof.Rows L2
open Km442 (Leg Ship Desk Call mayMake mayGrey mayBlack greyOf goes bit act)
open Sh (Good GoodD IsCall Full gN bN uN)
section
variable {P : Program} {w : World} {K : PySem.W.Frag} {mg : Str → Option Value} {base : Heap} {a : Ad}
def sp_has (a : Ad) : Sp := fun vs H Q _ => ∃ (p : Addr) (s : Ship) (n : Nat), vs = [.ref p, .int n] ∧ StateAt a H p (rawOf s) ∧ n ≤ 100 ∧ Q (.bl (decide (Full n s))) H
theorem ok_has_hundredths (T : Tx K mg a) : FnOk P w K mg base CX0 1 a.f_has_hundredths a.d_has_hundredths ["state", "h"] (sp_has a) := by
  refine T.F_has_hundredths.ok sc_has_hundredths (fun vs H Q E h => ?_) (fun cdv A outer s H vs Q E hr h => ?_)
  · obtain ⟨p, r, n, rfl, _⟩ := h
    rfl
  · obtain ⟨p, r, n, rfl, ⟨dx, z, t, ps, S⟩, hn, h⟩ := h
    refine ⟨_, (pss_cons (ps_set (i := 2) sc_has_hundredths.nd rfl (Or.inl rfl) (pe_fld (pv 0) rfl))
      (pss_one (ps_ret (pe_or (pe_cmpR op_ge (pe_op op_mul pe_int (pe_fld (pv 0) rfl)) (pe_op op_mul (pv 1) (pe_fld (pv 2) rfl)) (nomark _)) (pe_one (pe_cmpR op_ge (pe_op op_mul pe_int (pe_fld (pv 0) rfl)) (pe_op op_mul (pv 1) (pe_fld (pv 2) rfl)) (nomark _))))))), ?_⟩
    obtain ⟨dz, hz⟩ := S.sz
    have e1 : ∀ x y : Nat, decide ((n : Int) * (y : Int) ≤ 100 * (x : Int)) = decide (y * n ≤ x * 100) := fun x y => by
      refine decide_eq_decide.mpr ?_
      rw [← Int.natCast_mul, Nat.mul_comm n y]
      omega
    refine ⟨_, rfl, p, a.c_State, dx, _, _, rfl, S.st, T.c_State, T.n_State_sizes, rfl, ?_⟩
    refine ⟨_, rfl, p, a.c_State, dx, _, _, rfl, S.st, T.c_State, T.n_State_grey, rfl, _, _, rfl, rfl, .inl ⟨by decide, by decide⟩, _, rfl, _, rfl, z, a.c_Sizes, dz, _, _, rfl, hz, T.c_Sizes, T.n_Sizes_grey, rfl, _, _, rfl, rfl, .inl ⟨by show -(2 ^ 64) < (n : Int); omega, by show (n : Int) < 2 ^ 64; omega⟩, _, _, rfl, rfl, _, rfl, ?_⟩
    refine ite2 (fun c => ?_) (fun c => ?_)
    · have c1 : decide ((n : Int) * (r.greyMost : Int) ≤ 100 * (r.grey : Int)) = true := c
      rw [e1] at c1
      rw [decide_eq_true (show Full n r from .inl (of_decide_eq_true c1))] at h
      exact h
    · have c1 : ¬ decide ((n : Int) * (r.greyMost : Int) ≤ 100 * (r.grey : Int)) = true := c
      rw [e1] at c1
      have c2 : ¬ r.greyMost * n ≤ r.grey * 100 := fun y => c1 (decide_eq_true y)
      refine ⟨_, rfl, p, a.c_State, dx, _, _, rfl, S.st, T.c_State, T.n_State_black, rfl, _, _, rfl, rfl, .inl ⟨by decide, by decide⟩, _, rfl, _, rfl, z, a.c_Sizes, dz, _, _, rfl, hz, T.c_Sizes, T.n_Sizes_black, rfl, _, _, rfl, rfl, .inl ⟨by show -(2 ^ 64) < (n : Int); omega, by show (n : Int) < 2 ^ 64; omega⟩, _, _, rfl, rfl, ?_⟩
      show Q (.bl (decide ((n : Int) * (r.blackMost : Int) ≤ 100 * (r.black : Int)))) H
      rw [e1]
      rw [show decide (Full n r) = decide (r.blackMost * n ≤ r.black * 100) from decide_eq_decide.mpr ⟨fun y => y.resolve_left c2, .inr⟩] at h
      exact h
def fullAns (s : Ship) (n : Nat) : List Int := if n = 0 ∨ 100 < n then [-22] else match Km442.fullGo 501 0 n s with
  | none => [-33]
  | some k => [((k : Nat) : Int)]
theorem ok_full (T : Tx K mg a) : FnOk P w K mg base CX0 5 a.f_full a.d_full ["state", "h"] (spAskN a fullAns) := by
  refine T.F_full.ok sc_full (fun vs H Q E h => ?_) (fun cdv A outer s H vs Q E hr h => ?_)
  · obtain ⟨p, r, n, rfl, _⟩ := h
    rfl
  · obtain ⟨p, r, n, rfl, S, g, h⟩ := h
    refine ⟨_, (pss_cons (ps_if (PW.pt (pw_or (pt_cmpR op_lt (pv 1) pe_int (nomark _)) (pw_or1 (pt_cmpR op_gt (pv 1) pe_int (nomark _))))) (pss_one (ps_ret (pe_lst (pa_cons (pk T.k_WRONG_NUMBER) pa_nil)))) pss_nil)
      (pss_cons (ps_set (i := 2) sc_full.nd rfl (Or.inl rfl) (pe_call (ok_copy_of T) (hr.mono (by decide)) rfl T.m_copy_of T.F_copy_of.kp T.b_copy_of .nil pass0 (pa_cons (pv 0) pa_nil)))
      (pss_cons (ps_for PassesOwn.never rfl (pi_range1 rfl T.no_range (pa_cons (pk T.k_MOST_HOURS_AHEAD) pa_nil)) (pg_name (i := 3) sc_full.nd rfl (Or.inl rfl)) (pss_cons (ps_if (pt_val (pe_call (ok_has_hundredths T) (hr.mono (by decide)) rfl T.m_has_hundredths T.F_has_hundredths.kp T.b_has_hundredths .nil pass0 (pa_cons (pv 2) (pa_cons (pv 1) pa_nil)))) (pss_one (ps_ret (pe_lst (pa_cons (pv 3) pa_nil)))) pss_nil)
      (pss_one (ps_expr (pe_call (ok_hour T) (hr.mono (by decide)) rfl T.m_pass_hour T.F_pass_hour.kp T.b_pass_hour .nil pass0 (pa_cons (pv 2) pa_nil))))))
      (pss_cons (ps_if (pt_val (pe_call (ok_has_hundredths T) (hr.mono (by decide)) rfl T.m_has_hundredths T.F_has_hundredths.kp T.b_has_hundredths .nil pass0 (pa_cons (pv 2) (pa_cons (pv 1) pa_nil)))) (pss_one (ps_ret (pe_lst (pa_cons (pk T.k_MOST_HOURS_AHEAD) pa_nil)))) pss_nil)
      (pss_one (ps_ret (pe_lst (pa_cons (pk T.k_NOT_SOON) pa_nil)))))))), ?_⟩
    unfold fullAns at h
    have bad : (n = 0 ∨ 100 < n) → 1 ≤ sizeLine ∧ ∀ p, H p = none → Q (.ref p) (upd H p (.lst [V.int (-22)])) := fun c => by
      rw [if_pos c] at h
      exact ⟨by decide, fun q hq => h q _ (Same.upd hq) hq upd_same⟩
    refine ⟨_, rfl, _, _, rfl, rfl, _, rfl, ?_⟩
    refine ite2 (fun c => iteT (bad (by have : (n : Int) < 1 := of_decide_eq_true c; omega))) (fun c1 => ?_)
    refine ⟨_, rfl, _, _, rfl, rfl, _, rfl, ?_⟩
    refine ite2 (fun c => bad (by have : (100 : Int) < n := of_decide_eq_true c; omega)) (fun c2 => ?_)
    have d1 : ¬ (n : Int) < 1 := fun z => c1 (decide_eq_true z)
    have d2 : ¬ (100 : Int) < n := fun z => c2 (decide_eq_true z)
    rw [if_neg (by omega)] at h
    have hn : n ≤ 100 := by omega
    refine ⟨_, rfl, p, rawOf r, rfl, S, fun q H1 nq S1 s1 => ?_⟩
    refine ⟨500, rfl, (by decide), (by decide), for_range (n := (500 : Int).toNat) (fun i σ H' => (∃ v, σ = [some (.ref p), some (.int n), some (.ref q), v]) ∧ StateAt a H' q (rawOf (r.hours i)) ∧ Same H H' ∧ ∀ j, j < i → ¬ Full n (r.hours j)) ⟨⟨none, rfl⟩, S1, s1, fun j hj => absurd hj (Nat.not_lt_zero _)⟩ ?_ ?_⟩
    · rintro i σ H' hi ⟨⟨v, rfl⟩, S', k', hl⟩
      have hi' : i < 500 := hi
      refine ⟨_, rfl, _, rfl, q, r.hours i, n, rfl, S', hn, _, rfl, ?_⟩
      refine ite2 (fun c => ?_) (fun c => ?_)
      · have c' : Full n (r.hours i) := of_decide_eq_true c
        refine ⟨_, rfl, (by show 1 ≤ sizeLine; decide), fun l hl' => ?_⟩
        have e := Sh.fullGo_some 501 0 n r r i rfl (Nat.zero_le _) (by omega) hl c'
        rw [e] at h
        refine h l _ (k'.trans (Same.upd hl')) (k'.free hl') ?_
        show upd H' l (HO.lst [V.int (0 + (i : Int))]) l = some (HO.lst [V.int (i : Int)])
        rw [upd_same, Int.zero_add]
      · have c' : ¬ Full n (r.hours i) := fun z => c (decide_eq_true z)
        refine ⟨_, rfl, q, r.hours i, rfl, S', Sh.Good.hours i g, fun H2 S2 k2 => ⟨⟨_, rfl⟩, ?_, fun b o e => k2 b o (k' b o e) (ne_of_none e nq), fun j hj => ?_⟩⟩
        · rw [Sh.hours_snoc]
          exact S2
        · by_cases e : j = i
          · rw [e]; exact c'
          · exact hl j (by omega)
    · rintro σ H' ⟨⟨v, rfl⟩, S', k', hl⟩
      have hl5 : ∀ j, j < 500 → ¬ Full n (r.hours j) := hl
      have S5 : StateAt a H' q (rawOf (r.hours 500)) := S'
      refine ⟨_, rfl, _, rfl, q, r.hours 500, n, rfl, S5, hn, _, rfl, ?_⟩
      refine ite2 (fun c => ?_) (fun c => ?_)
      · have c' : Full n (r.hours 500) := of_decide_eq_true c
        have e := Sh.fullGo_some 501 0 n r r 500 rfl (Nat.zero_le _) (by omega) hl5 c'
        rw [e] at h
        exact ⟨by show 1 ≤ sizeLine; decide, fun l hl' => h l _ (k'.trans (Same.upd hl')) (k'.free hl') upd_same⟩
      · have c' : ¬ Full n (r.hours 500) := fun z => c (decide_eq_true z)
        have e := Sh.fullGo_none 501 0 n r r rfl fun j hj => by
          by_cases e : j = 500
          · rw [e]; exact c'
          · exact hl5 j (by omega)
        rw [e] at h
        exact ⟨by show 1 ≤ sizeLine; decide, fun l hl' => h l _ (k'.trans (Same.upd hl')) (k'.free hl') upd_same⟩
def flowsAns (s : Ship) : List Int := [((s.makesNow : Nat) : Int), ((gN s : Nat) : Int), ((bN s : Nat) : Int), ((s.hourly.used - s.used : Nat) : Int)]
theorem ok_flows (T : Tx K mg a) : FnOk P w K mg base CX0 5 a.f_flows a.d_flows ["state"] (spAsk a flowsAns) := by
  refine T.F_flows.ok sc_flows (fun vs H Q E h => ?_) (fun cdv A outer s H vs Q E hr h => ?_)
  · obtain ⟨p, r, rfl, _⟩ := h
    rfl
  · obtain ⟨p, r, rfl, S, g, h⟩ := h
    refine ⟨_, (pss_cons (ps_set (i := 1) sc_flows.nd rfl (Or.inl rfl) (pe_call (ok_copy_of T) (hr.mono (by decide)) rfl T.m_copy_of T.F_copy_of.kp T.b_copy_of .nil pass0 (pa_cons (pv 0) pa_nil)))
      (pss_cons (ps_expr (pe_call (ok_hour T) (hr.mono (by decide)) rfl T.m_pass_hour T.F_pass_hour.kp T.b_pass_hour .nil pass0 (pa_cons (pv 1) pa_nil)))
      (pss_cons (ps_set (i := 2) sc_flows.nd rfl (Or.inl rfl) (pe_op op_sub (pe_fld (pv 1) rfl) (pe_fld (pv 0) rfl)))
      (pss_cons (ps_set (i := 3) sc_flows.nd rfl (Or.inl rfl) (pe_op op_sub (pe_fld (pv 1) rfl) (pe_fld (pv 0) rfl)))
      (pss_cons (ps_set (i := 4) sc_flows.nd rfl (Or.inl rfl) (pe_op op_sub (pe_fld (pv 1) rfl) (pe_fld (pv 0) rfl)))
      (pss_one (ps_ret (pe_lst (pa_cons (pv 2) (pa_cons (pv 3) (pa_cons (pv 4) (pa_cons (pe_op op_sub (pe_fld (pv 1) rfl) (pe_fld (pv 0) rfl)) pa_nil)))))))))))), ?_⟩
    refine ⟨_, rfl, p, rawOf r, rfl, S, fun q H1 nq S1 s1 => ?_⟩
    refine ⟨_, rfl, q, r, rfl, S1, g, fun H2 S2 k2 => ?_⟩
    have s2 : Same H H2 := fun b o e => k2 b o (s1 b o e) (ne_of_none e nq)
    obtain ⟨dx, z, t, ps, S⟩ := S.same s2
    obtain ⟨dy, z2, t2, ps2, Q2⟩ := S2
    unfold flowsAns at h
    have e1 : r.hourly.made = r.made + r.makesNow := rfl
    have e2 : r.hourly.goneGrey = r.goneGrey + gN r := rfl
    have e3 : r.hourly.goneBlack = r.goneBlack + bN r := rfl
    have e4 : r.used ≤ r.hourly.used := Nat.le_add_right _ _
    generalize r.hourly = rh at Q2 e1 e2 e3 e4 h
    refine ⟨_, rfl, q, a.c_State, dy, _, _, rfl, Q2.st, T.c_State, T.n_State_taken_in, rfl, _, rfl, p, a.c_State, dx, _, _, rfl, S.st, T.c_State, T.n_State_taken_in, rfl, _, _, rfl, rfl, ?_⟩
    refine ⟨_, rfl, q, a.c_State, dy, _, _, rfl, Q2.st, T.c_State, T.n_State_grey_gone, rfl, _, rfl, p, a.c_State, dx, _, _, rfl, S.st, T.c_State, T.n_State_grey_gone, rfl, _, _, rfl, rfl, ?_⟩
    refine ⟨_, rfl, q, a.c_State, dy, _, _, rfl, Q2.st, T.c_State, T.n_State_black_gone, rfl, _, rfl, p, a.c_State, dx, _, _, rfl, S.st, T.c_State, T.n_State_black_gone, rfl, _, _, rfl, rfl, ?_⟩
    refine ⟨_, rfl, _, rfl, _, rfl, _, rfl, q, a.c_State, dy, _, _, rfl, Q2.st, T.c_State, T.n_State_used, rfl, _, rfl, p, a.c_State, dx, _, _, rfl, S.st, T.c_State, T.n_State_used, rfl, _, _, rfl, rfl, (by show 4 ≤ sizeLine; decide), fun l hl' => ?_⟩
    refine h l _ (s2.trans (Same.upd hl')) (s2.free hl') ?_
    rw [upd_same]
    show some (HO.lst [V.int ((rh.made : Int) - (r.made : Int)), V.int ((rh.goneGrey : Int) - (r.goneGrey : Int)), V.int ((rh.goneBlack : Int) - (r.goneBlack : Int)), V.int ((rh.used : Int) - (r.used : Int))]) = _
    rw [show (rh.made : Int) - (r.made : Int) = ((r.makesNow : Nat) : Int) by omega, show (rh.goneGrey : Int) - (r.goneGrey : Int) = ((gN r : Nat) : Int) by omega, show (rh.goneBlack : Int) - (r.goneBlack : Int) = ((bN r : Nat) : Int) by omega, ← Int.ofNat_sub e4]
    rfl
def sp_is (f : Nat → Bool) : Sp := fun vs H Q _ => ∃ k : Nat, vs = [.int k] ∧ k < 23 ∧ ∀ H' : Hp, Same H H' → Q (.bl (f k)) H'
def isOut (k : Nat) : Bool := k == 7 || k == 8 || k == 10 || k == 16 || k == 18
def isHist (k : Nat) : Bool := k == 20 || k == 21 || k == 22
theorem ok_is_outlook (T : Tx K mg a) : FnOk P w K mg base CX0 1 a.f_is_outlook a.d_is_outlook ["number"] (sp_is isOut) := by
  refine T.F_is_outlook.ok sc_is_outlook (fun vs H Q E h => ?_) (fun cdv A outer s H vs Q E hr h => ?_)
  · obtain ⟨k, rfl, _⟩ := h
    rfl
  · obtain ⟨k, rfl, hk, h⟩ := h
    refine ⟨_, (pss_one (ps_ret (pe_cmpR op_in_seq (pv 0) (pe_tup (pa_cons (pk T.k_LASTS) (pa_cons (pk T.k_NEXT_GO) (pa_cons (pk T.k_AHEAD) (pa_cons (pk T.k_FULL) (pa_cons (pk T.k_FLOWS) pa_nil)))))) (by with_unfolding_all rfl)))), ?_⟩
    refine ⟨_, rfl, (by show 5 ≤ sizeLine; decide), fun p hp => ?_⟩
    refine ⟨p, _, rfl, .inr (SqT.of upd_same), rfl, rfl, ?_⟩
    have e : inV (V.int k) [V.int 7, V.int 8, V.int 10, V.int 16, V.int 18] = isOut k := by
      have : ∀ k, k < 23 → inV (V.int (k : Nat)) [V.int 7, V.int 8, V.int 10, V.int 16, V.int 18] = isOut k := by decide
      exact this k hk
    have := h _ (Same.upd (o := .tup [V.int 7, V.int 8, V.int 10, V.int 16, V.int 18]) hp)
    rw [← e] at this
    exact this
theorem ok_is_history (T : Tx K mg a) : FnOk P w K mg base CX0 1 a.f_is_history a.d_is_history ["number"] (sp_is isHist) := by
  refine T.F_is_history.ok sc_is_history (fun vs H Q E h => ?_) (fun cdv A outer s H vs Q E hr h => ?_)
  · obtain ⟨k, rfl, _⟩ := h
    rfl
  · obtain ⟨k, rfl, hk, h⟩ := h
    refine ⟨_, (pss_one (ps_ret (pe_cmpR op_in_seq (pv 0) (pe_tup (pa_cons (pk T.k_BACK) (pa_cons (pk T.k_AGAIN) (pa_cons (pk T.k_STATE) pa_nil)))) (by with_unfolding_all rfl)))), ?_⟩
    refine ⟨_, rfl, (by show 3 ≤ sizeLine; decide), fun p hp => ?_⟩
    refine ⟨p, _, rfl, .inr (SqT.of upd_same), rfl, rfl, ?_⟩
    have e : inV (V.int k) [V.int 20, V.int 21, V.int 22] = isHist k := by
      have : ∀ k, k < 23 → inV (V.int (k : Nat)) [V.int 20, V.int 21, V.int 22] = isHist k := by decide
      exact this k hk
    have := h _ (Same.upd (o := .tup [V.int 20, V.int 21, V.int 22]) hp)
    rw [← e] at this
    exact this
/-- what a call that only asks answers -/
def askOf (s : Ship) : Call → Option (List Int)
  | .lasts => some [(s.lasts : Int)]
  | .nextGo => some (nextAns s)
  | .ahead n => some (aheadAns s n)
  | .full n => some (fullAns s n)
  | .flows => some (flowsAns s)
  | _ => none
def askNow (s : Ship) : Call → Option (List Int)
  | .may => some (mayAns s)
  | .room => some (roomAns s)
  | .wants => some (wantsAns s)
  | .where_ t => some (whereAns s t)
  | .legOf k => some (lookAns s k)
  | .end_ => some (endAns s)
  | .tanks => some (tanksAns s)
  | .sums => some (sumsAns s)
  | _ => none
def spAny (a : Ad) (f : Ship → Call → Option (List Int)) : Sp := fun vs H Q _ => ∃ (p b : Addr) (s : Ship) (k : Nat) (ns : List Int) (c : Call) (v : List Int), vs = [.ref p, .int k, .ref b] ∧ IsCall k ns c ∧ f s c = some v ∧ H b = some (.lst (ns.map V.int)) ∧ StateAt a H p (rawOf s) ∧ Good s ∧ ∀ (q : Addr) (H' : Hp), Same H H' → H q = none → H' q = some (.lst (v.map V.int)) → Q (.ref q) H'
theorem ok_look_ahead (T : Tx K mg a) : FnOk P w K mg base CX0 7 a.f_look_ahead a.d_look_ahead ["state", "number", "numbers"] (spAny a askOf) := by
  refine T.F_look_ahead.ok sc_look_ahead (fun vs H Q E h => ?_) (fun cdv A outer s H vs Q E hr h => ?_)
  · obtain ⟨p, b, r, k, ns, c, v, rfl, _⟩ := h
    rfl
  · obtain ⟨p, b, r, k, ns, c, v, rfl, hc, hv, hb, S, g, h⟩ := h
    refine ⟨_, (pss_cons (ps_if (pt_cmpR op_eq (pv 1) (pk T.k_LASTS) (nomark _)) (pss_one (ps_ret (pe_call (ok_lasts T) (hr.mono (by decide)) rfl T.m_lasts T.F_lasts.kp T.b_lasts .nil pass0 (pa_cons (pv 0) pa_nil)))) pss_nil)
      (pss_cons (ps_if (pt_cmpR op_eq (pv 1) (pk T.k_NEXT_GO) (nomark _)) (pss_one (ps_ret (pe_call (ok_next_go T) (hr.mono (by decide)) rfl T.m_next_go T.F_next_go.kp T.b_next_go .nil pass0 (pa_cons (pv 0) pa_nil)))) pss_nil)
      (pss_cons (ps_if (pt_cmpR op_eq (pv 1) (pk T.k_AHEAD) (nomark _)) (pss_one (ps_ret (pe_call (ok_ahead T) (hr.mono (by decide)) rfl T.m_ahead T.F_ahead.kp T.b_ahead .nil pass0 (pa_cons (pv 0) (pa_cons (pe_ix ix_list (pv 2) pe_int (fun _ _ => rfl)) pa_nil))))) pss_nil)
      (pss_cons (ps_if (pt_cmpR op_eq (pv 1) (pk T.k_FULL) (nomark _)) (pss_one (ps_ret (pe_call (ok_full T) (hr.mono (by decide)) rfl T.m_full T.F_full.kp T.b_full .nil pass0 (pa_cons (pv 0) (pa_cons (pe_ix ix_list (pv 2) pe_int (fun _ _ => rfl)) pa_nil))))) pss_nil)
      (pss_one (ps_ret (pe_call (ok_flows T) (hr.mono (by decide)) rfl T.m_flows T.F_flows.kp T.b_flows .nil pass0 (pa_cons (pv 0) pa_nil)))))))), ?_⟩
    cases hc with
    | lasts =>
      cases hv
      refine ⟨_, rfl, rfl, _, rfl, iteY rfl ?_⟩
      exact ⟨_, rfl, p, r, rfl, S, g, h⟩
    | nextGo =>
      cases hv
      refine ⟨_, rfl, rfl, _, rfl, iteN (vint_ne (by decide)) ?_⟩
      refine ⟨_, rfl, rfl, _, rfl, iteY rfl ?_⟩
      exact ⟨_, rfl, p, r, rfl, S, g, h⟩
    | ahead x =>
      cases hv
      refine ⟨_, rfl, rfl, _, rfl, iteN (vint_ne (by decide)) ?_⟩
      refine ⟨_, rfl, rfl, _, rfl, iteN (vint_ne (by decide)) ?_⟩
      refine ⟨_, rfl, rfl, _, rfl, iteY rfl ?_⟩
      exact ⟨_, rfl, _, rfl, b, _, _, _, rfl, rfl, SqL.of hb, rfl, p, r, x, rfl, S, g, h⟩
    | full x =>
      cases hv
      refine ⟨_, rfl, rfl, _, rfl, iteN (vint_ne (by decide)) ?_⟩
      refine ⟨_, rfl, rfl, _, rfl, iteN (vint_ne (by decide)) ?_⟩
      refine ⟨_, rfl, rfl, _, rfl, iteN (vint_ne (by decide)) ?_⟩
      refine ⟨_, rfl, rfl, _, rfl, iteY rfl ?_⟩
      exact ⟨_, rfl, _, rfl, b, _, _, _, rfl, rfl, SqL.of hb, rfl, p, r, x, rfl, S, g, h⟩
    | flows =>
      cases hv
      refine ⟨_, rfl, rfl, _, rfl, iteN (vint_ne (by decide)) ?_⟩
      refine ⟨_, rfl, rfl, _, rfl, iteN (vint_ne (by decide)) ?_⟩
      refine ⟨_, rfl, rfl, _, rfl, iteN (vint_ne (by decide)) ?_⟩
      refine ⟨_, rfl, rfl, _, rfl, iteN (vint_ne (by decide)) ?_⟩
      exact ⟨_, rfl, p, r, rfl, S, g, h⟩
    | _ => cases hv
theorem ok_ask (T : Tx K mg a) : FnOk P w K mg base CX0 5 a.f_ask a.d_ask ["state", "number", "numbers"] (spAny a askNow) := by
  refine T.F_ask.ok sc_ask (fun vs H Q E h => ?_) (fun cdv A outer s H vs Q E hr h => ?_)
  · obtain ⟨p, b, r, k, ns, c, v, rfl, _⟩ := h
    rfl
  · obtain ⟨p, b, r, k, ns, c, v, rfl, hc, hv, hb, S, g, h⟩ := h
    refine ⟨_, (pss_cons (ps_if (pt_cmpR op_eq (pv 1) (pk T.k_MAY) (nomark _)) (pss_one (ps_ret (pe_call (ok_may_now T) (hr.mono (by decide)) rfl T.m_may_now T.F_may_now.kp T.b_may_now .nil pass0 (pa_cons (pv 0) pa_nil)))) pss_nil)
      (pss_cons (ps_if (pt_cmpR op_eq (pv 1) (pk T.k_ROOM) (nomark _)) (pss_one (ps_ret (pe_call (ok_room T) (hr.mono (by decide)) rfl T.m_room T.F_room.kp T.b_room .nil pass0 (pa_cons (pv 0) pa_nil)))) pss_nil)
      (pss_cons (ps_if (pt_cmpR op_eq (pv 1) (pk T.k_WANTS) (nomark _)) (pss_one (ps_ret (pe_call (ok_wants T) (hr.mono (by decide)) rfl T.m_wants T.F_wants.kp T.b_wants .nil pass0 (pa_cons (pv 0) pa_nil)))) pss_nil)
      (pss_cons (ps_if (pt_cmpR op_eq (pv 1) (pk T.k_WHERE) (nomark _)) (pss_one (ps_ret (pe_call (ok_where T) (hr.mono (by decide)) rfl T.m_where T.F_where.kp T.b_where .nil pass0 (pa_cons (pv 0) (pa_cons (pe_ix ix_list (pv 2) pe_int (fun _ _ => rfl)) pa_nil))))) pss_nil)
      (pss_cons (ps_if (pt_cmpR op_eq (pv 1) (pk T.k_LOOK) (nomark _)) (pss_one (ps_ret (pe_call (ok_look T) (hr.mono (by decide)) rfl T.m_look T.F_look.kp T.b_look .nil pass0 (pa_cons (pv 0) (pa_cons (pe_ix ix_list (pv 2) pe_int (fun _ _ => rfl)) pa_nil))))) pss_nil)
      (pss_cons (ps_if (pt_cmpR op_eq (pv 1) (pk T.k_END) (nomark _)) (pss_one (ps_ret (pe_call (ok_end T) (hr.mono (by decide)) rfl T.m_end T.F_end.kp T.b_end .nil pass0 (pa_cons (pv 0) pa_nil)))) pss_nil)
      (pss_cons (ps_if (pt_cmpR op_eq (pv 1) (pk T.k_TANKS) (nomark _)) (pss_one (ps_ret (pe_call (ok_tanks T) (hr.mono (by decide)) rfl T.m_tanks T.F_tanks.kp T.b_tanks .nil pass0 (pa_cons (pv 0) pa_nil)))) pss_nil)
      (pss_one (ps_ret (pe_call (ok_sums T) (hr.mono (by decide)) rfl T.m_sums T.F_sums.kp T.b_sums .nil pass0 (pa_cons (pv 0) pa_nil))))))))))), ?_⟩
    cases hc with
    | may =>
      cases hv
      refine ⟨_, rfl, rfl, _, rfl, iteY rfl ?_⟩
      exact ⟨_, rfl, p, r, rfl, S, g, h⟩
    | room =>
      cases hv
      refine ⟨_, rfl, rfl, _, rfl, iteN (vint_ne (by decide)) ?_⟩
      refine ⟨_, rfl, rfl, _, rfl, iteY rfl ?_⟩
      exact ⟨_, rfl, p, r, rfl, S, g, h⟩
    | wants =>
      cases hv
      refine ⟨_, rfl, rfl, _, rfl, iteN (vint_ne (by decide)) ?_⟩
      refine ⟨_, rfl, rfl, _, rfl, iteN (vint_ne (by decide)) ?_⟩
      refine ⟨_, rfl, rfl, _, rfl, iteY rfl ?_⟩
      exact ⟨_, rfl, p, r, rfl, S, g, h⟩
    | where_ x =>
      cases hv
      refine ⟨_, rfl, rfl, _, rfl, iteN (vint_ne (by decide)) ?_⟩
      refine ⟨_, rfl, rfl, _, rfl, iteN (vint_ne (by decide)) ?_⟩
      refine ⟨_, rfl, rfl, _, rfl, iteN (vint_ne (by decide)) ?_⟩
      refine ⟨_, rfl, rfl, _, rfl, iteY rfl ?_⟩
      exact ⟨_, rfl, _, rfl, b, _, _, _, rfl, rfl, SqL.of hb, rfl, p, r, x, rfl, S, g, h⟩
    | legOf x =>
      cases hv
      refine ⟨_, rfl, rfl, _, rfl, iteN (vint_ne (by decide)) ?_⟩
      refine ⟨_, rfl, rfl, _, rfl, iteN (vint_ne (by decide)) ?_⟩
      refine ⟨_, rfl, rfl, _, rfl, iteN (vint_ne (by decide)) ?_⟩
      refine ⟨_, rfl, rfl, _, rfl, iteN (vint_ne (by decide)) ?_⟩
      refine ⟨_, rfl, rfl, _, rfl, iteY rfl ?_⟩
      exact ⟨_, rfl, _, rfl, b, _, _, _, rfl, rfl, SqL.of hb, rfl, p, r, x, rfl, S, g, h⟩
    | end_ =>
      cases hv
      refine ⟨_, rfl, rfl, _, rfl, iteN (vint_ne (by decide)) ?_⟩
      refine ⟨_, rfl, rfl, _, rfl, iteN (vint_ne (by decide)) ?_⟩
      refine ⟨_, rfl, rfl, _, rfl, iteN (vint_ne (by decide)) ?_⟩
      refine ⟨_, rfl, rfl, _, rfl, iteN (vint_ne (by decide)) ?_⟩
      refine ⟨_, rfl, rfl, _, rfl, iteN (vint_ne (by decide)) ?_⟩
      refine ⟨_, rfl, rfl, _, rfl, iteY rfl ?_⟩
      exact ⟨_, rfl, p, r, rfl, S, g, h⟩
    | tanks =>
      cases hv
      refine ⟨_, rfl, rfl, _, rfl, iteN (vint_ne (by decide)) ?_⟩
      refine ⟨_, rfl, rfl, _, rfl, iteN (vint_ne (by decide)) ?_⟩
      refine ⟨_, rfl, rfl, _, rfl, iteN (vint_ne (by decide)) ?_⟩
      refine ⟨_, rfl, rfl, _, rfl, iteN (vint_ne (by decide)) ?_⟩
      refine ⟨_, rfl, rfl, _, rfl, iteN (vint_ne (by decide)) ?_⟩
      refine ⟨_, rfl, rfl, _, rfl, iteN (vint_ne (by decide)) ?_⟩
      refine ⟨_, rfl, rfl, _, rfl, iteY rfl ?_⟩
      exact ⟨_, rfl, p, r, rfl, S, g, h⟩
    | sums =>
      cases hv
      refine ⟨_, rfl, rfl, _, rfl, iteN (vint_ne (by decide)) ?_⟩
      refine ⟨_, rfl, rfl, _, rfl, iteN (vint_ne (by decide)) ?_⟩
      refine ⟨_, rfl, rfl, _, rfl, iteN (vint_ne (by decide)) ?_⟩
      refine ⟨_, rfl, rfl, _, rfl, iteN (vint_ne (by decide)) ?_⟩
      refine ⟨_, rfl, rfl, _, rfl, iteN (vint_ne (by decide)) ?_⟩
      refine ⟨_, rfl, rfl, _, rfl, iteN (vint_ne (by decide)) ?_⟩
      refine ⟨_, rfl, rfl, _, rfl, iteN (vint_ne (by decide)) ?_⟩
      exact ⟨_, rfl, p, r, rfl, S, g, h⟩
    | _ => cases hv
end
end Sp
end
section
set_option Elab.async false
set_option linter.all false
set_option maxRecDepth 100000
set_option maxHeartbeats 3900000
namespace Sp
open PySem PySem.Spec PyProof.Rows L2
open Km442 (Leg Ship Desk Call mayMake mayGrey mayBlack greyOf goes bit act)
open Sh (Good GoodD IsCall Full gN bN uN)
theorem StatesAt.unsnoc {a : Ad} {H : Hp} {s : Ship} : ∀ {ps : List Addr} {l : List Ship}, StatesAt a H ps (l ++ [s]) → ∃ ps' q, ps = ps' ++ [q] ∧ StatesAt a H ps' l ∧ StateAt a H q (rawOf s)
  | [], [], h => h.elim
  | [], _ :: _, h => h.elim
  | [q], [], h => ⟨[], q, rfl, True.intro, h.1⟩
  | _ :: _ :: _, [], h => h.2.elim
  | p :: ps, x :: l, h => by
    obtain ⟨ps', q, e, h1, h2⟩ := StatesAt.unsnoc (ps := ps) (l := l) h.2
    exact ⟨p :: ps', q, by rw [e]; rfl, ⟨h.1, h1⟩, h2⟩
/-- what is there behind a state that has come back -/
def Swap (a : Ad) (H : Hp) (p dx e u : Addr) (d : Desk) (H' : Hp) : Prop := ∃ n es us, ShAt a H' p d dx n e u es us ∧ ∀ b o, H b = some o → b ≠ p → b ≠ e → b ≠ u → H' b = some o
theorem Swap.after {a : Ad} {H H' : Hp} {p dx e u : Addr} {d : Desk} (h : Swap a H p dx e u d H') : After a H p dx e u d H' := by
  obtain ⟨n, es, us, S, k⟩ := h
  exact ⟨n, e, u, es, us, S, .inl rfl, .inl rfl, k⟩
theorem Swap.free {a : Ad} {H H' : Hp} {p dx e u q : Addr} {d : Desk} (h : Swap a H p dx e u d H') (hq : H' q = none) : H q = none := by
  obtain ⟨n, es, us, S, k⟩ := h
  cases c : H q with
  | none => rfl
  | some o =>
    have n1 : q ≠ p := fun z => by rw [z, S.sh] at hq; cases hq
    have n2 : q ≠ e := fun z => by rw [z, S.le] at hq; cases hq
    have n3 : q ≠ u := fun z => by rw [z, S.lu] at hq; cases hq
    have := k q o c n1 n2 n3
    rw [hq] at this
    cases this
theorem Swap.mk {a : Ad} {H G : Hp} {p dx n e u : Addr} {es us : List Addr} {d : Desk} (S : ShAt a H p d dx n e u es us) {q : Addr} {es' us' : List Addr} {s : Ship} {l1 l2 : List Ship}
    (gp : G p = some (.ins a.c_Ship dx (shF q e u))) (ge : G e = some (.lst (es'.map V.ref))) (gu : G u = some (.lst (us'.map V.ref))) (k : ∀ b o, H b = some o → b ≠ p → b ≠ e → b ≠ u → G b = some o)
    (Sq : StateAt a H q (rawOf s)) (h1 : StatesAt a H es' l1.reverse) (h2 : StatesAt a H us' l2.reverse) : Swap a H p dx e u ⟨s, l1, l2⟩ G := by
  have kp : ∀ b o, H b = some o → ¬ (b = p ∨ b = e ∨ b = u) → G b = some o := fun b o hb nb => k b o hb (fun z => nb (.inl z)) (fun z => nb (.inr (.inl z))) (fun z => nb (.inr (.inr z)))
  have hx : ∀ b o, (b = p ∨ b = e ∨ b = u) → H b = some o → (∃ xs, o = .lst xs) ∨ (∃ C dx n e u, o = .ins C dx (shF n e u)) := fun b o hpeu ho => by
    rcases hpeu with rfl | rfl | rfl
    · rw [S.sh] at ho
      exact .inr ⟨_, _, _, _, _, (Option.some.inj ho).symm⟩
    · rw [S.le] at ho
      exact .inl ⟨_, (Option.some.inj ho).symm⟩
    · rw [S.lu] at ho
      exact .inl ⟨_, (Option.some.inj ho).symm⟩
  exact ⟨q, es', us', ⟨gp, StateAt.keep _ hx kp Sq, ge, gu, S.ne, StatesAt.keep _ hx kp h1, StatesAt.keep _ hx kp h2⟩, k⟩
theorem last_at (xs : List V) (y : V) : (xs ++ [y])[(xs ++ [y]).length - 1]? = some y := by simp
section
variable {P : Program} {w : World} {K : PySem.W.Frag} {mg : Str → Option Value} {base : Heap} {a : Ad}
def sp_take_back (a : Ad) : Sp := fun vs H Q _ => ∃ (p dx n e u : Addr) (es us : List Addr) (now x : Ship) (past fut : List Ship), vs = [.ref p] ∧ ShAt a H p ⟨now, x :: past, fut⟩ dx n e u es us ∧ fut.length ≤ 30 ∧ ∀ H' : Hp, Swap a H p dx e u ⟨x, past, now :: fut⟩ H' → Q .non H'
theorem ok_Ship_take_back (T : Tx K mg a) : FnOk P w K mg base CX0 1 a.f_Ship_take_back a.d_Ship_take_back ["self"] (sp_take_back a) := by
  refine T.F_Ship_take_back.ok sc_Ship_take_back (fun vs H Q E h => ?_) (fun cdv A outer s H vs Q E hr h => ?_)
  · obtain ⟨p, dx, n, e, u, es, us, now, x, past, fut, rfl, _⟩ := h
    rfl
  · obtain ⟨p, dx, n, e, u, es, us, now, x, past, fut, rfl, S, hl, h⟩ := h
    refine ⟨_, (pss_cons (ps_expr (pe_bm PySem.F.plainAttrs_list PySem.F.slot_list_append PySem.F.type_list_append mt_append (pe_fld (pv 0) rfl) (pa_cons (pe_fld (pv 0) rfl) pa_nil)))
      (pss_one (ps_fld (pv 0) (pe_bm0 PySem.F.plainAttrs_list PySem.F.slot_list_pop PySem.F.type_list_pop mt_pop (pe_fld (pv 0) rfl)) rfl))), ?_⟩
    have hp : StatesAt a H es (past.reverse ++ [x]) := by
      have := S.past
      rw [List.reverse_cons] at this
      exact this
    have hf : StatesAt a H us fut.reverse := S.fut
    obtain ⟨es', q, rfl, hp', hq⟩ := hp.unsnoc
    have hlu : us.length = fut.length := by rw [hf.len, List.length_reverse]
    have npe : p ≠ e := ne_of S.sh S.le (by intro z; cases z)
    have npu : p ≠ u := ne_of S.sh S.lu (by intro z; cases z)
    refine ⟨_, rfl, p, a.c_Ship, dx, _, _, rfl, S.sh, T.c_Ship, T.n_Ship_undone, rfl, .inl ⟨rfl, _, SqL.of S.lu⟩, _, rfl, p, a.c_Ship, dx, _, _, rfl, S.sh, T.c_Ship, T.n_Ship_now, rfl, u, _, _, rfl, rfl, S.lu, (by rw [List.length_map, hlu]; exact Nat.lt_of_le_of_lt hl (by decide)), ?_⟩
    have e1 : upd H u (.lst (us.map V.ref ++ [V.ref n])) p = some (.ins a.c_Ship dx (shF n e u)) := by rw [upd_ne npu]; exact S.sh
    have e2 : upd H u (.lst (us.map V.ref ++ [V.ref n])) e = some (.lst (es'.map V.ref ++ [V.ref q])) := by
      rw [upd_ne S.ne, S.le, List.map_append]
      rfl
    refine ⟨_, rfl, p, a.c_Ship, dx, _, _, rfl, e1, T.c_Ship, T.n_Ship_earlier, rfl, .inl ⟨rfl, _, SqL.of e2⟩, e, _, _, rfl, rfl, e2, last_at _ _, ?_⟩
    rw [List.dropLast_concat]
    have e3 : upd (upd H u (.lst (us.map V.ref ++ [V.ref n]))) e (.lst (es'.map V.ref)) p = some (.ins a.c_Ship dx (shF n e u)) := by rw [upd_ne npe]; exact e1
    refine ⟨_, rfl, p, a.c_Ship, dx, _, rfl, e3, T.c_Ship, T.n_Ship_now, (by show 3 < 1000; decide), ?_⟩
    have es5 : putF "now" (V.ref q) (shF n e u) = shF q e u := rfl
    rw [es5]
    have em : us.map V.ref ++ [V.ref n] = (us ++ [n]).map V.ref := by rw [List.map_append]; rfl
    refine h _ (Swap.mk S (es' := es') (us' := us ++ [n]) upd_same ?_ ?_ (fun b o hb n1 n2 n3 => ?_) hq hp' ?_)
    · rw [upd_ne (Ne.symm npe)]
      exact upd_same
    · rw [upd_ne (Ne.symm npu), upd_ne (Ne.symm S.ne), upd_same, em]
    · rw [upd_ne n1, upd_ne n2, upd_ne n3]
      exact hb
    · rw [List.reverse_cons]
      exact hf.snoc S.now
def sp_do_again (a : Ad) : Sp := fun vs H Q _ => ∃ (p dx n e u : Addr) (es us : List Addr) (now x : Ship) (past fut : List Ship), vs = [.ref p] ∧ ShAt a H p ⟨now, past, x :: fut⟩ dx n e u es us ∧ past.length ≤ 30 ∧ ∀ H' : Hp, Swap a H p dx e u ⟨x, now :: past, fut⟩ H' → Q .non H'
theorem ok_Ship_do_again (T : Tx K mg a) : FnOk P w K mg base CX0 1 a.f_Ship_do_again a.d_Ship_do_again ["self"] (sp_do_again a) := by
  refine T.F_Ship_do_again.ok sc_Ship_do_again (fun vs H Q E h => ?_) (fun cdv A outer s H vs Q E hr h => ?_)
  · obtain ⟨p, dx, n, e, u, es, us, now, x, past, fut, rfl, _⟩ := h
    rfl
  · obtain ⟨p, dx, n, e, u, es, us, now, x, past, fut, rfl, S, hl, h⟩ := h
    refine ⟨_, (pss_cons (ps_expr (pe_bm PySem.F.plainAttrs_list PySem.F.slot_list_append PySem.F.type_list_append mt_append (pe_fld (pv 0) rfl) (pa_cons (pe_fld (pv 0) rfl) pa_nil)))
      (pss_one (ps_fld (pv 0) (pe_bm0 PySem.F.plainAttrs_list PySem.F.slot_list_pop PySem.F.type_list_pop mt_pop (pe_fld (pv 0) rfl)) rfl))), ?_⟩
    have hp : StatesAt a H us (fut.reverse ++ [x]) := by
      have := S.fut
      rw [List.reverse_cons] at this
      exact this
    have hf : StatesAt a H es past.reverse := S.past
    obtain ⟨us', q, rfl, hp', hq⟩ := hp.unsnoc
    have hlu : es.length = past.length := by rw [hf.len, List.length_reverse]
    have npe : p ≠ e := ne_of S.sh S.le (by intro z; cases z)
    have npu : p ≠ u := ne_of S.sh S.lu (by intro z; cases z)
    refine ⟨_, rfl, p, a.c_Ship, dx, _, _, rfl, S.sh, T.c_Ship, T.n_Ship_earlier, rfl, .inl ⟨rfl, _, SqL.of S.le⟩, _, rfl, p, a.c_Ship, dx, _, _, rfl, S.sh, T.c_Ship, T.n_Ship_now, rfl, e, _, _, rfl, rfl, S.le, (by rw [List.length_map, hlu]; exact Nat.lt_of_le_of_lt hl (by decide)), ?_⟩
    have e1 : upd H e (.lst (es.map V.ref ++ [V.ref n])) p = some (.ins a.c_Ship dx (shF n e u)) := by rw [upd_ne npe]; exact S.sh
    have e2 : upd H e (.lst (es.map V.ref ++ [V.ref n])) u = some (.lst (us'.map V.ref ++ [V.ref q])) := by
      rw [upd_ne (Ne.symm S.ne), S.lu, List.map_append]
      rfl
    refine ⟨_, rfl, p, a.c_Ship, dx, _, _, rfl, e1, T.c_Ship, T.n_Ship_undone, rfl, .inl ⟨rfl, _, SqL.of e2⟩, u, _, _, rfl, rfl, e2, last_at _ _, ?_⟩
    rw [List.dropLast_concat]
    have e3 : upd (upd H e (.lst (es.map V.ref ++ [V.ref n]))) u (.lst (us'.map V.ref)) p = some (.ins a.c_Ship dx (shF n e u)) := by rw [upd_ne npu]; exact e1
    refine ⟨_, rfl, p, a.c_Ship, dx, _, rfl, e3, T.c_Ship, T.n_Ship_now, (by show 3 < 1000; decide), ?_⟩
    have es5 : putF "now" (V.ref q) (shF n e u) = shF q e u := rfl
    rw [es5]
    have em : es.map V.ref ++ [V.ref n] = (es ++ [n]).map V.ref := by rw [List.map_append]; rfl
    refine h _ (Swap.mk S (es' := es ++ [n]) (us' := us') upd_same ?_ ?_ (fun b o hb n1 n2 n3 => ?_) hq ?_ hp')
    · rw [upd_ne (Ne.symm npe), upd_ne S.ne, upd_same, em]
    · rw [upd_ne (Ne.symm npu)]
      exact upd_same
    · rw [upd_ne n1, upd_ne n3, upd_ne n2]
      exact hb
    · rw [List.reverse_cons]
      exact hf.snoc S.now
def sp_hist (a : Ad) (c : Call) : Sp := fun vs H Q _ => ∃ (p dx n e u : Addr) (es us : List Addr) (d : Desk), vs = [.ref p] ∧ ShAt a H p d dx n e u es us ∧ GoodD d ∧ Out a H p dx e u d c Q
theorem ok_back (T : Tx K mg a) : FnOk P w K mg base CX0 2 a.f_back a.d_back ["ship"] (sp_hist a .back) := by
  refine T.F_back.ok sc_back (fun vs H Q E h => ?_) (fun cdv A outer s H vs Q E hr h => ?_)
  · obtain ⟨p, dx, n, e, u, es, us, d, rfl, _⟩ := h
    rfl
  · obtain ⟨p, dx, n, e, u, es, us, ⟨now, past, fut⟩, rfl, S, g, h⟩ := h
    refine ⟨_, (pss_cons (ps_if (pt_cmpR op_eq (pe_callB call_len_seq (by rfl) T.no_len PySem.boot_len (pa_cons (pe_fld (pv 0) rfl) pa_nil)) pe_int (nomark _)) (pss_one (ps_ret (pe_lst (pa_cons (pk T.k_NONE_THERE) pa_nil)))) pss_nil)
      (pss_cons (ps_expr (pe_meth0 (pv 0) T.c_Ship T.me_Ship_take_back (ok_Ship_take_back T) (hr.mono (by decide)) T.b_Ship_take_back .nil pass0))
      (pss_one (ps_ret (pe_lst (pa_cons (pe_callB call_len_seq (by rfl) T.no_len PySem.boot_len (pa_cons (pe_fld (pv 0) rfl) pa_nil)) pa_nil)))))), ?_⟩
    have gl : past.length + fut.length ≤ 30 := g.len
    have hl : es.length = past.length := by
      have := S.past.len
      rw [List.length_reverse] at this
      exact this
    refine ⟨_, rfl, p, a.c_Ship, dx, _, _, rfl, S.sh, T.c_Ship, T.n_Ship_earlier, rfl, e, _, rfl, .inl (SqL.of S.le), rfl, _, rfl, ?_⟩
    rw [List.length_map, dec_int0]
    unfold Out at h
    cases past with
    | nil =>
      have h0 : es.length = 0 := hl
      refine ite2 (fun _ => ?_) (fun c => absurd (decide_eq_true (by omega)) c)
      exact ⟨by show 1 ≤ sizeLine; decide, fun q hq => h q _ hq upd_same (After.same (After.refl S) (Same.upd hq))⟩
    | cons x past =>
      have h0 : es.length = past.length + 1 := hl
      refine ite2 (fun c => ?_) (fun _ => ?_)
      · have : (es.length : Int) = 0 := of_decide_eq_true c
        omega
      refine ⟨_, rfl, p, dx, _, rfl, S.sh, rfl, p, dx, n, e, u, es, us, now, x, past, fut, rfl, S, (by omega), fun H1 W => ?_⟩
      obtain ⟨n1, es1, us1, S1, k1⟩ := id W
      have hl1 : es1.length = past.length := by
        have := S1.past.len
        rw [List.length_reverse] at this
        exact this
      refine ⟨_, rfl, p, a.c_Ship, dx, _, _, rfl, S1.sh, T.c_Ship, T.n_Ship_earlier, rfl, e, _, rfl, .inl (SqL.of S1.le), (by show 1 ≤ sizeLine; decide), fun q hq => ?_⟩
      refine h q _ (W.free hq) ?_ (W.after.same (Same.upd hq))
      rw [upd_same, List.length_map, hl1]
      rfl
theorem ok_again (T : Tx K mg a) : FnOk P w K mg base CX0 2 a.f_again a.d_again ["ship"] (sp_hist a .again) := by
  refine T.F_again.ok sc_again (fun vs H Q E h => ?_) (fun cdv A outer s H vs Q E hr h => ?_)
  · obtain ⟨p, dx, n, e, u, es, us, d, rfl, _⟩ := h
    rfl
  · obtain ⟨p, dx, n, e, u, es, us, ⟨now, past, fut⟩, rfl, S, g, h⟩ := h
    refine ⟨_, (pss_cons (ps_if (pt_cmpR op_eq (pe_callB call_len_seq (by rfl) T.no_len PySem.boot_len (pa_cons (pe_fld (pv 0) rfl) pa_nil)) pe_int (nomark _)) (pss_one (ps_ret (pe_lst (pa_cons (pk T.k_NONE_THERE) pa_nil)))) pss_nil)
      (pss_cons (ps_expr (pe_meth0 (pv 0) T.c_Ship T.me_Ship_do_again (ok_Ship_do_again T) (hr.mono (by decide)) T.b_Ship_do_again .nil pass0))
      (pss_one (ps_ret (pe_lst (pa_cons (pe_callB call_len_seq (by rfl) T.no_len PySem.boot_len (pa_cons (pe_fld (pv 0) rfl) pa_nil)) pa_nil)))))), ?_⟩
    have gl : past.length + fut.length ≤ 30 := g.len
    have hl : us.length = fut.length := by
      have := S.fut.len
      rw [List.length_reverse] at this
      exact this
    refine ⟨_, rfl, p, a.c_Ship, dx, _, _, rfl, S.sh, T.c_Ship, T.n_Ship_undone, rfl, u, _, rfl, .inl (SqL.of S.lu), rfl, _, rfl, ?_⟩
    rw [List.length_map, dec_int0]
    unfold Out at h
    cases fut with
    | nil =>
      have h0 : us.length = 0 := hl
      refine ite2 (fun _ => ?_) (fun c => absurd (decide_eq_true (by omega)) c)
      exact ⟨by show 1 ≤ sizeLine; decide, fun q hq => h q _ hq upd_same (After.same (After.refl S) (Same.upd hq))⟩
    | cons x fut =>
      have h0 : us.length = fut.length + 1 := hl
      have e9 : (act ⟨now, past, x :: fut⟩ .again).1 = ⟨x, now :: past, fut⟩ := by
        show (⟨x, (now :: past).take Km442.PAST, fut⟩ : Desk) = _
        rw [Sh.again_take g]
      rw [e9] at h
      refine ite2 (fun c => ?_) (fun _ => ?_)
      · have : (us.length : Int) = 0 := of_decide_eq_true c
        omega
      refine ⟨_, rfl, p, dx, _, rfl, S.sh, rfl, p, dx, n, e, u, es, us, now, x, past, fut, rfl, S, (by omega), fun H1 W => ?_⟩
      obtain ⟨n1, es1, us1, S1, k1⟩ := id W
      have hl1 : us1.length = fut.length := by
        have := S1.fut.len
        rw [List.length_reverse] at this
        exact this
      refine ⟨_, rfl, p, a.c_Ship, dx, _, _, rfl, S1.sh, T.c_Ship, T.n_Ship_undone, rfl, u, _, rfl, .inl (SqL.of S1.lu), (by show 1 ≤ sizeLine; decide), fun q hq => ?_⟩
      refine h q _ (W.free hq) ?_ (W.after.same (Same.upd hq))
      rw [upd_same, List.length_map, hl1]
      rfl
theorem ok_tell_state (T : Tx K mg a) : FnOk P w K mg base CX0 3 a.f_tell_state a.d_tell_state ["ship"] (sp_hist a .state) := by
  refine T.F_tell_state.ok sc_tell_state (fun vs H Q E h => ?_) (fun cdv A outer s H vs Q E hr h => ?_)
  · obtain ⟨p, dx, n, e, u, es, us, d, rfl, _⟩ := h
    rfl
  · obtain ⟨p, dx, n, e, u, es, us, d, rfl, S, g, h⟩ := h
    refine ⟨_, (pss_cons (ps_set (i := 1) sc_tell_state.nd rfl (Or.inl rfl) (pe_fld (pv 0) rfl))
      (pss_cons (ps_set (i := 2) sc_tell_state.nd rfl (Or.inl rfl) (pe_lst (pa_cons (pe_callB call_len_seq (by rfl) T.no_len PySem.boot_len (pa_cons (pe_fld (pv 0) rfl) pa_nil)) (pa_cons (pe_callB call_len_seq (by rfl) T.no_len PySem.boot_len (pa_cons (pe_fld (pv 0) rfl) pa_nil)) pa_nil))))
      (pss_one (ps_ret (pe_op op_cat (pe_lst (pa_cons (pe_fld (pv 1) rfl) (pa_cons (pe_callB call_len_seq (by rfl) T.no_len PySem.boot_len (pa_cons (pe_fld (pv 1) rfl) pa_nil)) (pa_cons (pe_fld (pv 1) rfl) (pa_cons (pe_fld (pv 1) rfl) (pa_cons (pe_call (ok_what_is_set T) (hr.mono (by decide)) rfl T.m_what_is_set T.F_what_is_set.kp T.b_what_is_set .nil pass0 (pa_cons (pv 1) pa_nil)) pa_nil)))))) (pv 2)))))), ?_⟩
    have hle : es.length = d.past.length := by
      have := S.past.len
      rw [List.length_reverse] at this
      exact this
    have hlu : us.length = d.future.length := by
      have := S.fut.len
      rw [List.length_reverse] at this
      exact this
    refine ⟨_, rfl, p, a.c_Ship, dx, _, _, rfl, S.sh, T.c_Ship, T.n_Ship_now, rfl, ?_⟩
    refine ⟨_, rfl, p, a.c_Ship, dx, _, _, rfl, S.sh, T.c_Ship, T.n_Ship_earlier, rfl, e, _, rfl, .inl (SqL.of S.le), _, rfl, p, a.c_Ship, dx, _, _, rfl, S.sh, T.c_Ship, T.n_Ship_undone, rfl, u, _, rfl, .inl (SqL.of S.lu), (by show 2 ≤ sizeLine; decide), fun l hl => ?_⟩
    rw [List.length_map, List.length_map, hle, hlu]
    have s1 : Same H (upd H l (.lst [V.int (d.past.length : Int), V.int (d.future.length : Int)])) := Same.upd hl
    have hl1 : upd H l (.lst [V.int (d.past.length : Int), V.int (d.future.length : Int)]) l = some (.lst [V.int (d.past.length : Int), V.int (d.future.length : Int)]) := upd_same
    show gName 2 (V.ref l) _ (upd H l (.lst [V.int (d.past.length : Int), V.int (d.future.length : Int)])) _
    generalize upd H l (.lst [V.int (d.past.length : Int), V.int (d.future.length : Int)]) = H1 at s1 hl1 ⊢
    obtain ⟨dy, z, t, ps, N⟩ := S.now.same s1
    have hn : ps.length = d.now.legs.length := N.lg.len
    refine ⟨_, rfl, n, a.c_State, dy, _, _, rfl, N.st, T.c_State, T.n_State_hour, rfl, ?_⟩
    refine ⟨_, rfl, n, a.c_State, dy, _, _, rfl, N.st, T.c_State, T.n_State_legs, rfl, t, _, rfl, .inr (SqT.of N.tu), ?_⟩
    refine ⟨_, rfl, n, a.c_State, dy, _, _, rfl, N.st, T.c_State, T.n_State_persons, rfl, _, rfl, n, a.c_State, dy, _, _, rfl, N.st, T.c_State, T.n_State_uses, rfl, ?_⟩
    refine ⟨_, rfl, n, rawOf d.now, rfl, ⟨dy, z, t, ps, N⟩, (by show 5 ≤ sizeLine; decide), fun q hq => ?_⟩
    rw [List.length_map, hn]
    have nlq : l ≠ q := ne_of_none hl1 hq
    refine ⟨_, rfl, q, l, _, _, rfl, rfl, upd_same, (by rw [upd_ne nlq]; exact hl1), (by show 7 ≤ sizeLine; decide), fun v hv => ?_⟩
    refine h v _ ((s1.trans (Same.upd hq)).free hv) ?_ (After.same (After.refl S) (s1.trans ((Same.upd hq).trans (Same.upd hv))))
    rw [upd_same]
    have eb : ((bit d.now.making + 2 * bit d.now.letGrey + 4 * bit d.now.letBlack : Nat) : Int) = b01 d.now.making + 2 * b01 d.now.letGrey + 4 * b01 d.now.letBlack := by
      rw [b01_bit, b01_bit, b01_bit]
      omega
    show _ = some (HO.lst [V.int (d.now.hour : Int), V.int (d.now.legs.length : Int), V.int (d.now.persons : Int), V.int (d.now.uses : Int), V.int ((bit d.now.making + 2 * bit d.now.letGrey + 4 * bit d.now.letBlack : Nat) : Int), V.int (d.past.length : Int), V.int (d.future.length : Int)])
    rw [eb]
    rfl
def isH : Call → Bool
  | .back => true
  | .again => true
  | .state => true
  | _ => false
def sp_do_history (a : Ad) : Sp := fun vs H Q _ => ∃ (p dx n e u : Addr) (es us : List Addr) (d : Desk) (k : Nat) (ns : List Int) (c : Call), vs = [.ref p, .int k] ∧ IsCall k ns c ∧ isH c = true ∧ ShAt a H p d dx n e u es us ∧ GoodD d ∧ Out a H p dx e u d c Q
theorem ok_do_history (T : Tx K mg a) : FnOk P w K mg base CX0 4 a.f_do_history a.d_do_history ["ship", "number"] (sp_do_history a) := by
  refine T.F_do_history.ok sc_do_history (fun vs H Q E h => ?_) (fun cdv A outer s H vs Q E hr h => ?_)
  · obtain ⟨p, dx, n, e, u, es, us, d, k, ns, c, rfl, _⟩ := h
    rfl
  · obtain ⟨p, dx, n, e, u, es, us, d, k, ns, c, rfl, hc, hi, S, g, h⟩ := h
    refine ⟨_, (pss_cons (ps_if (pt_cmpR op_eq (pv 1) (pk T.k_BACK) (nomark _)) (pss_one (ps_ret (pe_call (ok_back T) (hr.mono (by decide)) rfl T.m_back T.F_back.kp T.b_back .nil pass0 (pa_cons (pv 0) pa_nil)))) pss_nil)
      (pss_cons (ps_if (pt_cmpR op_eq (pv 1) (pk T.k_AGAIN) (nomark _)) (pss_one (ps_ret (pe_call (ok_again T) (hr.mono (by decide)) rfl T.m_again T.F_again.kp T.b_again .nil pass0 (pa_cons (pv 0) pa_nil)))) pss_nil)
      (pss_one (ps_ret (pe_call (ok_tell_state T) (hr.mono (by decide)) rfl T.m_tell_state T.F_tell_state.kp T.b_tell_state .nil pass0 (pa_cons (pv 0) pa_nil)))))), ?_⟩
    cases hc with
    | back =>
      refine ⟨_, rfl, rfl, _, rfl, iteY rfl ?_⟩
      exact ⟨_, rfl, p, dx, n, e, u, es, us, d, rfl, S, g, h⟩
    | again =>
      refine ⟨_, rfl, rfl, _, rfl, iteN (vint_ne (by decide)) ?_⟩
      refine ⟨_, rfl, rfl, _, rfl, iteY rfl ?_⟩
      exact ⟨_, rfl, p, dx, n, e, u, es, us, d, rfl, S, g, h⟩
    | state =>
      refine ⟨_, rfl, rfl, _, rfl, iteN (vint_ne (by decide)) ?_⟩
      refine ⟨_, rfl, rfl, _, rfl, iteN (vint_ne (by decide)) ?_⟩
      exact ⟨_, rfl, p, dx, n, e, u, es, us, d, rfl, S, g, h⟩
    | _ => cases hi
/-- what only asks leaves the desk, and answers as the document says -/
theorem ask_told (d : Desk) (c : Call) (v : List Int) (h : askOf d.now c = some v ∨ askNow d.now c = some v) : (act d c).1 = d ∧ Km442Neutral.told (act d c).2 = v := by
  cases c with
  | lasts => rcases h with h | h <;> cases h; exact ⟨rfl, rfl⟩
  | nextGo => rcases h with h | h <;> cases h; exact ⟨rfl, (next_told d).symm⟩
  | ahead n =>
    rcases h with h | h <;> cases h
    refine ⟨rfl, ?_⟩
    unfold aheadAns
    show Km442Neutral.told (if n = 0 ∨ 500 < n then _ else _) = _
    by_cases c : n = 0 ∨ 500 < n
    · rw [if_pos c, if_pos c]; rfl
    · rw [if_neg c, if_neg c]; rfl
  | full n =>
    rcases h with h | h <;> cases h
    refine ⟨rfl, ?_⟩
    unfold fullAns
    show Km442Neutral.told (if n = 0 ∨ 100 < n then _ else _) = _
    by_cases c : n = 0 ∨ 100 < n
    · rw [if_pos c, if_pos c]; rfl
    · rw [if_neg c, if_neg c]
      generalize Km442.fullGo 501 0 n d.now = o
      cases o <;> rfl
  | flows => rcases h with h | h <;> cases h; exact ⟨rfl, rfl⟩
  | may => rcases h with h | h <;> cases h; exact ⟨rfl, rfl⟩
  | room => rcases h with h | h <;> cases h; exact ⟨rfl, rfl⟩
  | wants => rcases h with h | h <;> cases h; exact ⟨rfl, rfl⟩
  | where_ t =>
    rcases h with h | h <;> cases h
    refine ⟨rfl, ?_⟩
    unfold whereAns
    show Km442Neutral.told (if 10000 < t then _ else _) = _
    by_cases c : 10000 < t
    · rw [if_pos c, if_pos c]; rfl
    · rw [if_neg c, if_neg c]; rfl
  | legOf k =>
    rcases h with h | h <;> cases h
    refine ⟨rfl, ?_⟩
    unfold lookAns
    show Km442Neutral.told (match d.now.legs[k]? with
      | none => Km442.only (-2)
      | some x => ⟨((x.hours : Nat) : Int), [x.miles, x.knots]⟩) = _
    cases d.now.legs[k]? <;> rfl
  | end_ => rcases h with h | h <;> cases h; exact ⟨rfl, rfl⟩
  | tanks => rcases h with h | h <;> cases h; exact ⟨rfl, rfl⟩
  | sums => rcases h with h | h <;> cases h; exact ⟨rfl, rfl⟩
  | _ => rcases h with h | h <;> cases h
theorem Out.ask {H : Hp} {p dx n e u : Addr} {es us : List Addr} {d : Desk} {c : Call} {Q : VK} {v : List Int} (S : ShAt a H p d dx n e u es us) (h : Out a H p dx e u d c Q) (hv : askOf d.now c = some v ∨ askNow d.now c = some v) {H1 : Hp} (s1 : Same H H1) :
    ∀ (q : Addr) (H' : Hp), Same H1 H' → H1 q = none → H' q = some (.lst (v.map V.int)) → Q (.ref q) H' := by
  intro q H' s hq hl
  have e := ask_told d c v hv
  unfold Out at h
  rw [e.1, e.2] at h
  exact h q H' (s1.free hq) hl (After.same (After.refl S) (s1.trans s))
theorem ShAt.same {H H' : Hp} {p dx n e u : Addr} {es us : List Addr} {d : Desk} (S : ShAt a H p d dx n e u es us) (s : Same H H') : ShAt a H' p d dx n e u es us := ⟨s _ _ S.sh, StateAt.same s S.now, s _ _ S.le, s _ _ S.lu, S.ne, S.past.same s, S.fut.same s⟩
theorem Out.of {H H1 : Hp} {p dx e u : Addr} {d : Desk} {c : Call} {Q : VK} (h : Out a H p dx e u d c Q) (s : Same H H1) : Out a H1 p dx e u d c Q := fun q H' hq hl A => h q H' (s.free hq) hl (A.of s)
inductive Kind : Nat → Ship → Call → Prop
  | ch {k : Nat} {s : Ship} {c : Call} (h1 : isCh c = true) (e1 : decide (1 ≤ k ∧ k ≤ 6) = true) : Kind k s c
  | hist {k : Nat} {s : Ship} {c : Call} (h1 : isH c = true) (e1 : decide (1 ≤ k ∧ k ≤ 6) = false) (e2 : isHist k = true) : Kind k s c
  | out {k : Nat} {s : Ship} {c : Call} (v : List Int) (h1 : askOf s c = some v) (e1 : decide (1 ≤ k ∧ k ≤ 6) = false) (e2 : isHist k = false) (e3 : isOut k = true) : Kind k s c
  | now {k : Nat} {s : Ship} {c : Call} (v : List Int) (h1 : askNow s c = some v) (e1 : decide (1 ≤ k ∧ k ≤ 6) = false) (e2 : isHist k = false) (e3 : isOut k = false) : Kind k s c
theorem kind_of {k : Nat} {ns : List Int} {c : Call} (s : Ship) (h : IsCall k ns c) (h0 : k ≠ 0) : Kind k s c := by
  cases h with
  | start => exact absurd rfl h0
  | leg => exact .ch rfl rfl
  | persons => exact .ch rfl rfl
  | set_ => exact .ch rfl rfl
  | bunker => exact .ch rfl rfl
  | shore => exact .ch rfl rfl
  | hours => exact .ch rfl rfl
  | lasts => exact .out _ rfl rfl rfl rfl
  | nextGo => exact .out _ rfl rfl rfl rfl
  | ahead => exact .out _ rfl rfl rfl rfl
  | full => exact .out _ rfl rfl rfl rfl
  | flows => exact .out _ rfl rfl rfl rfl
  | back => exact .hist rfl rfl rfl
  | again => exact .hist rfl rfl rfl
  | state => exact .hist rfl rfl rfl
  | _ => exact .now _ rfl rfl rfl rfl
theorem iteE {b : Bool} {A B : Prop} (h : b = true) (x : A) : if b = true then A else B := by
  rw [if_pos h]
  exact x
theorem iteO {b : Bool} {A B : Prop} (h : b = false) (x : B) : if b = true then A else B := by
  rw [if_neg (by rw [h]; exact Bool.false_ne_true)]
  exact x
theorem ok_answer_of (T : Tx K mg a) : FnOk P w K mg base CX0 9 a.f_answer_of a.d_answer_of ["ship", "number", "numbers"] (sp_answer_of a) := by
  refine T.F_answer_of.ok sc_answer_of (fun vs H Q E h => ?_) (fun cdv A outer s H vs Q E hr h => ?_)
  · obtain ⟨p, b, dx, n, e, u, es, us, d, k, ns, c, rfl, _⟩ := h
    rfl
  · obtain ⟨p, b, dx, n, e, u, es, us, d, k, ns, c, rfl, hc, h0, hb, S, g, h⟩ := h
    refine ⟨_, (pss_cons (ps_if (pt_val (pe_call (ok_is_change T) (hr.mono (by decide)) rfl T.m_is_change T.F_is_change.kp T.b_is_change .nil pass0 (pa_cons (pv 1) pa_nil))) (pss_one (ps_ret (pe_call (ok_make_change T) (hr.mono (by decide)) rfl T.m_make_change T.F_make_change.kp T.b_make_change .nil pass0 (pa_cons (pv 0) (pa_cons (pv 1) (pa_cons (pv 2) pa_nil)))))) pss_nil)
      (pss_cons (ps_if (pt_val (pe_call (ok_is_history T) (hr.mono (by decide)) rfl T.m_is_history T.F_is_history.kp T.b_is_history .nil pass0 (pa_cons (pv 1) pa_nil))) (pss_one (ps_ret (pe_call (ok_do_history T) (hr.mono (by decide)) rfl T.m_do_history T.F_do_history.kp T.b_do_history .nil pass0 (pa_cons (pv 0) (pa_cons (pv 1) pa_nil))))) pss_nil)
      (pss_cons (ps_if (pt_val (pe_call (ok_is_outlook T) (hr.mono (by decide)) rfl T.m_is_outlook T.F_is_outlook.kp T.b_is_outlook .nil pass0 (pa_cons (pv 1) pa_nil))) (pss_one (ps_ret (pe_call (ok_look_ahead T) (hr.mono (by decide)) rfl T.m_look_ahead T.F_look_ahead.kp T.b_look_ahead .nil pass0 (pa_cons (pe_fld (pv 0) rfl) (pa_cons (pv 1) (pa_cons (pv 2) pa_nil)))))) pss_nil)
      (pss_one (ps_ret (pe_call (ok_ask T) (hr.mono (by decide)) rfl T.m_ask T.F_ask.kp T.b_ask .nil pass0 (pa_cons (pe_fld (pv 0) rfl) (pa_cons (pv 1) (pa_cons (pv 2) pa_nil))))))))), ?_⟩
    have hk := hc.lt
    refine ⟨_, rfl, k, rfl, hk, fun H1 s1 => ⟨_, rfl, ?_⟩⟩
    cases kind_of d.now hc h0 with
    | ch i1 e1 =>
      refine iteE e1 ?_
      exact ⟨_, rfl, _, rfl, _, rfl, p, b, dx, n, e, u, es, us, d, k, ns, c, rfl, hc, i1, s1 _ _ hb, S.same s1, g, h.of s1⟩
    | hist i1 e1 e2 =>
      refine iteO e1 ?_
      refine ⟨_, rfl, k, rfl, hk, fun H2 s2 => ⟨_, rfl, iteE e2 ?_⟩⟩
      exact ⟨_, rfl, _, rfl, p, dx, n, e, u, es, us, d, k, ns, c, rfl, hc, i1, S.same (s1.trans s2), g, h.of (s1.trans s2)⟩
    | out v i1 e1 e2 e3 =>
      refine iteO e1 ?_
      refine ⟨_, rfl, k, rfl, hk, fun H2 s2 => ⟨_, rfl, iteO e2 ?_⟩⟩
      refine ⟨_, rfl, k, rfl, hk, fun H3 s3 => ⟨_, rfl, iteE e3 ?_⟩⟩
      have s4 := (s1.trans s2).trans s3
      have S4 := S.same s4
      exact ⟨_, rfl, p, a.c_Ship, dx, _, _, rfl, S4.sh, T.c_Ship, T.n_Ship_now, rfl, _, rfl, _, rfl, n, b, d.now, k, ns, c, v, rfl, hc, i1, s4 _ _ hb, S4.now, g.now, h.ask S (.inl i1) s4⟩
    | now v i1 e1 e2 e3 =>
      refine iteO e1 ?_
      refine ⟨_, rfl, k, rfl, hk, fun H2 s2 => ⟨_, rfl, iteO e2 ?_⟩⟩
      refine ⟨_, rfl, k, rfl, hk, fun H3 s3 => ⟨_, rfl, iteO e3 ?_⟩⟩
      have s4 := (s1.trans s2).trans s3
      have S4 := S.same s4
      exact ⟨_, rfl, p, a.c_Ship, dx, _, _, rfl, S4.sh, T.c_Ship, T.n_Ship_now, rfl, _, rfl, _, rfl, n, b, d.now, k, ns, c, v, rfl, hc, i1, s4 _ _ hb, S4.now, g.now, h.ask S (.inr i1) s4⟩
theorem ok_answers (T : Tx K mg a) : FnOk P w K mg base CX0 12 a.f_answers a.d_answers ["calls"] (spAns K) := ok_answers_of T T.q_WIDTHS (ok_answer_of T)
end
end Sp
end
section
set_option Elab.async false
set_option linter.all false
set_option maxRecDepth 100000
set_option maxHeartbeats 3900000
namespace Sp
open PySem PySem.Spec PyProof.Rows L2
theorem all_tx {K : PySem.W.Frag} {h : Heap} {mg : Str → Option Value} (X : K.In h) (G : h.Ns mainGlobals mg)
    {C_Sizes C_State C_Ship C_Leg f_Sizes_init f_State_init f_copy_of f_switches f_what_is_set f_wanted f_Ship_init f_Ship_keep f_Ship_take_back f_Ship_do_again f_Leg_init f_way_end f_leg_in f_in_port f_may_make f_may_let_grey f_may_let_black f_grey_let_go f_black_let_go f_water_made f_grey_part f_water_used f_let_go f_make_water f_use_water f_pass_hour f_pass_hours f_may_now f_room f_wants f_where f_look f_end f_tanks f_sums f_ask f_add_leg f_set_persons f_set_switches f_bunker f_give_ashore f_let_hours_go_by f_is_change f_change_state f_make_change f_back f_again f_tell_state f_is_history f_do_history f_lasts f_first_hour f_next_go f_ahead f_has_hundredths f_full f_flows f_is_outlook f_look_ahead f_may_start f_started f_answer_of f_answers : Addr}
    {t_START t_LEG t_PERSONS t_SET t_BUNKER t_ASHORE t_HOURS t_LASTS t_NEXT_GO t_MAY t_AHEAD t_ROOM t_WANTS t_WHERE t_LOOK t_END t_FULL t_TANKS t_FLOWS t_BACK t_AGAIN t_STATE t_NONE_THERE t_TOO_LITTLE t_NOT_HERE t_SO_ALREADY t_WRONG_NUMBER t_NO_MORE t_NOT_SOON t_NO_ROOM t_TOO_LATE t_MOST_KEPT t_MOST_LEGS t_MOST_LEG_HOURS t_MOST_MILES t_MOST_KNOTS t_LAST_HOUR t_MAKING_MILES t_GREY_MILES t_GREY_KNOTS t_BLACK_MILES t_BLACK_KNOTS t_MOST_PERSONS t_MOST_USES t_MOST_HOURS_AT_ONCE t_MOST_TAKEN_IN t_MOST_HOURS_AHEAD t_MOST_LITRES : Tok}
    {p_WIDTHS : Addr}
    {od_Sizes_init an_Sizes_init : Option Addr} {sl_Sizes_init : Array (Option Value)} {oc_Sizes_init kV_Sizes_init dc_Sizes_init pm_Sizes_init cd_Sizes_init ct_Sizes_init : Value}
    {od_State_init an_State_init : Option Addr} {sl_State_init : Array (Option Value)} {oc_State_init kV_State_init dc_State_init pm_State_init cd_State_init ct_State_init : Value}
    {od_copy_of an_copy_of : Option Addr} {sl_copy_of : Array (Option Value)} {oc_copy_of kV_copy_of dc_copy_of pm_copy_of cd_copy_of ct_copy_of : Value}
    {od_switches an_switches : Option Addr} {sl_switches : Array (Option Value)} {oc_switches kV_switches dc_switches pm_switches cd_switches ct_switches : Value}
    {od_what_is_set an_what_is_set : Option Addr} {sl_what_is_set : Array (Option Value)} {oc_what_is_set kV_what_is_set dc_what_is_set pm_what_is_set cd_what_is_set ct_what_is_set : Value}
    {od_wanted an_wanted : Option Addr} {sl_wanted : Array (Option Value)} {oc_wanted kV_wanted dc_wanted pm_wanted cd_wanted ct_wanted : Value}
    {od_Ship_init an_Ship_init : Option Addr} {sl_Ship_init : Array (Option Value)} {oc_Ship_init kV_Ship_init dc_Ship_init pm_Ship_init cd_Ship_init ct_Ship_init : Value}
    {od_Ship_keep an_Ship_keep : Option Addr} {sl_Ship_keep : Array (Option Value)} {oc_Ship_keep kV_Ship_keep dc_Ship_keep pm_Ship_keep cd_Ship_keep ct_Ship_keep : Value}
    {od_Ship_take_back an_Ship_take_back : Option Addr} {sl_Ship_take_back : Array (Option Value)} {oc_Ship_take_back kV_Ship_take_back dc_Ship_take_back pm_Ship_take_back cd_Ship_take_back ct_Ship_take_back : Value}
    {od_Ship_do_again an_Ship_do_again : Option Addr} {sl_Ship_do_again : Array (Option Value)} {oc_Ship_do_again kV_Ship_do_again dc_Ship_do_again pm_Ship_do_again cd_Ship_do_again ct_Ship_do_again : Value}
    {od_Leg_init an_Leg_init : Option Addr} {sl_Leg_init : Array (Option Value)} {oc_Leg_init kV_Leg_init dc_Leg_init pm_Leg_init cd_Leg_init ct_Leg_init : Value}
    {od_way_end an_way_end : Option Addr} {sl_way_end : Array (Option Value)} {oc_way_end kV_way_end dc_way_end pm_way_end cd_way_end ct_way_end : Value}
    {od_leg_in an_leg_in : Option Addr} {sl_leg_in : Array (Option Value)} {oc_leg_in kV_leg_in dc_leg_in pm_leg_in cd_leg_in ct_leg_in : Value}
    {od_in_port an_in_port : Option Addr} {sl_in_port : Array (Option Value)} {oc_in_port kV_in_port dc_in_port pm_in_port cd_in_port ct_in_port : Value}
    {od_may_make an_may_make : Option Addr} {sl_may_make : Array (Option Value)} {oc_may_make kV_may_make dc_may_make pm_may_make cd_may_make ct_may_make : Value}
    {od_may_let_grey an_may_let_grey : Option Addr} {sl_may_let_grey : Array (Option Value)} {oc_may_let_grey kV_may_let_grey dc_may_let_grey pm_may_let_grey cd_may_let_grey ct_may_let_grey : Value}
    {od_may_let_black an_may_let_black : Option Addr} {sl_may_let_black : Array (Option Value)} {oc_may_let_black kV_may_let_black dc_may_let_black pm_may_let_black cd_may_let_black ct_may_let_black : Value}
    {od_grey_let_go an_grey_let_go : Option Addr} {sl_grey_let_go : Array (Option Value)} {oc_grey_let_go kV_grey_let_go dc_grey_let_go pm_grey_let_go cd_grey_let_go ct_grey_let_go : Value}
    {od_black_let_go an_black_let_go : Option Addr} {sl_black_let_go : Array (Option Value)} {oc_black_let_go kV_black_let_go dc_black_let_go pm_black_let_go cd_black_let_go ct_black_let_go : Value}
    {od_water_made an_water_made : Option Addr} {sl_water_made : Array (Option Value)} {oc_water_made kV_water_made dc_water_made pm_water_made cd_water_made ct_water_made : Value}
    {od_grey_part an_grey_part : Option Addr} {sl_grey_part : Array (Option Value)} {oc_grey_part kV_grey_part dc_grey_part pm_grey_part cd_grey_part ct_grey_part : Value}
    {od_water_used an_water_used : Option Addr} {sl_water_used : Array (Option Value)} {oc_water_used kV_water_used dc_water_used pm_water_used cd_water_used ct_water_used : Value}
    {od_let_go an_let_go : Option Addr} {sl_let_go : Array (Option Value)} {oc_let_go kV_let_go dc_let_go pm_let_go cd_let_go ct_let_go : Value}
    {od_make_water an_make_water : Option Addr} {sl_make_water : Array (Option Value)} {oc_make_water kV_make_water dc_make_water pm_make_water cd_make_water ct_make_water : Value}
    {od_use_water an_use_water : Option Addr} {sl_use_water : Array (Option Value)} {oc_use_water kV_use_water dc_use_water pm_use_water cd_use_water ct_use_water : Value}
    {od_pass_hour an_pass_hour : Option Addr} {sl_pass_hour : Array (Option Value)} {oc_pass_hour kV_pass_hour dc_pass_hour pm_pass_hour cd_pass_hour ct_pass_hour : Value}
    {od_pass_hours an_pass_hours : Option Addr} {sl_pass_hours : Array (Option Value)} {oc_pass_hours kV_pass_hours dc_pass_hours pm_pass_hours cd_pass_hours ct_pass_hours : Value}
    {od_may_now an_may_now : Option Addr} {sl_may_now : Array (Option Value)} {oc_may_now kV_may_now dc_may_now pm_may_now cd_may_now ct_may_now : Value}
    {od_room an_room : Option Addr} {sl_room : Array (Option Value)} {oc_room kV_room dc_room pm_room cd_room ct_room : Value}
    {od_wants an_wants : Option Addr} {sl_wants : Array (Option Value)} {oc_wants kV_wants dc_wants pm_wants cd_wants ct_wants : Value}
    {od_where an_where : Option Addr} {sl_where : Array (Option Value)} {oc_where kV_where dc_where pm_where cd_where ct_where : Value}
    {od_look an_look : Option Addr} {sl_look : Array (Option Value)} {oc_look kV_look dc_look pm_look cd_look ct_look : Value}
    {od_end an_end : Option Addr} {sl_end : Array (Option Value)} {oc_end kV_end dc_end pm_end cd_end ct_end : Value}
    {od_tanks an_tanks : Option Addr} {sl_tanks : Array (Option Value)} {oc_tanks kV_tanks dc_tanks pm_tanks cd_tanks ct_tanks : Value}
    {od_sums an_sums : Option Addr} {sl_sums : Array (Option Value)} {oc_sums kV_sums dc_sums pm_sums cd_sums ct_sums : Value}
    {od_ask an_ask : Option Addr} {sl_ask : Array (Option Value)} {oc_ask kV_ask dc_ask pm_ask cd_ask ct_ask : Value}
    {od_add_leg an_add_leg : Option Addr} {sl_add_leg : Array (Option Value)} {oc_add_leg kV_add_leg dc_add_leg pm_add_leg cd_add_leg ct_add_leg : Value}
    {od_set_persons an_set_persons : Option Addr} {sl_set_persons : Array (Option Value)} {oc_set_persons kV_set_persons dc_set_persons pm_set_persons cd_set_persons ct_set_persons : Value}
    {od_set_switches an_set_switches : Option Addr} {sl_set_switches : Array (Option Value)} {oc_set_switches kV_set_switches dc_set_switches pm_set_switches cd_set_switches ct_set_switches : Value}
    {od_bunker an_bunker : Option Addr} {sl_bunker : Array (Option Value)} {oc_bunker kV_bunker dc_bunker pm_bunker cd_bunker ct_bunker : Value}
    {od_give_ashore an_give_ashore : Option Addr} {sl_give_ashore : Array (Option Value)} {oc_give_ashore kV_give_ashore dc_give_ashore pm_give_ashore cd_give_ashore ct_give_ashore : Value}
    {od_let_hours_go_by an_let_hours_go_by : Option Addr} {sl_let_hours_go_by : Array (Option Value)} {oc_let_hours_go_by kV_let_hours_go_by dc_let_hours_go_by pm_let_hours_go_by cd_let_hours_go_by ct_let_hours_go_by : Value}
    {od_is_change an_is_change : Option Addr} {sl_is_change : Array (Option Value)} {oc_is_change kV_is_change dc_is_change pm_is_change cd_is_change ct_is_change : Value}
    {od_change_state an_change_state : Option Addr} {sl_change_state : Array (Option Value)} {oc_change_state kV_change_state dc_change_state pm_change_state cd_change_state ct_change_state : Value}
    {od_make_change an_make_change : Option Addr} {sl_make_change : Array (Option Value)} {oc_make_change kV_make_change dc_make_change pm_make_change cd_make_change ct_make_change : Value}
    {od_back an_back : Option Addr} {sl_back : Array (Option Value)} {oc_back kV_back dc_back pm_back cd_back ct_back : Value}
    {od_again an_again : Option Addr} {sl_again : Array (Option Value)} {oc_again kV_again dc_again pm_again cd_again ct_again : Value}
    {od_tell_state an_tell_state : Option Addr} {sl_tell_state : Array (Option Value)} {oc_tell_state kV_tell_state dc_tell_state pm_tell_state cd_tell_state ct_tell_state : Value}
    {od_is_history an_is_history : Option Addr} {sl_is_history : Array (Option Value)} {oc_is_history kV_is_history dc_is_history pm_is_history cd_is_history ct_is_history : Value}
    {od_do_history an_do_history : Option Addr} {sl_do_history : Array (Option Value)} {oc_do_history kV_do_history dc_do_history pm_do_history cd_do_history ct_do_history : Value}
    {od_lasts an_lasts : Option Addr} {sl_lasts : Array (Option Value)} {oc_lasts kV_lasts dc_lasts pm_lasts cd_lasts ct_lasts : Value}
    {od_first_hour an_first_hour : Option Addr} {sl_first_hour : Array (Option Value)} {oc_first_hour kV_first_hour dc_first_hour pm_first_hour cd_first_hour ct_first_hour : Value}
    {od_next_go an_next_go : Option Addr} {sl_next_go : Array (Option Value)} {oc_next_go kV_next_go dc_next_go pm_next_go cd_next_go ct_next_go : Value}
    {od_ahead an_ahead : Option Addr} {sl_ahead : Array (Option Value)} {oc_ahead kV_ahead dc_ahead pm_ahead cd_ahead ct_ahead : Value}
    {od_has_hundredths an_has_hundredths : Option Addr} {sl_has_hundredths : Array (Option Value)} {oc_has_hundredths kV_has_hundredths dc_has_hundredths pm_has_hundredths cd_has_hundredths ct_has_hundredths : Value}
    {od_full an_full : Option Addr} {sl_full : Array (Option Value)} {oc_full kV_full dc_full pm_full cd_full ct_full : Value}
    {od_flows an_flows : Option Addr} {sl_flows : Array (Option Value)} {oc_flows kV_flows dc_flows pm_flows cd_flows ct_flows : Value}
    {od_is_outlook an_is_outlook : Option Addr} {sl_is_outlook : Array (Option Value)} {oc_is_outlook kV_is_outlook dc_is_outlook pm_is_outlook cd_is_outlook ct_is_outlook : Value}
    {od_look_ahead an_look_ahead : Option Addr} {sl_look_ahead : Array (Option Value)} {oc_look_ahead kV_look_ahead dc_look_ahead pm_look_ahead cd_look_ahead ct_look_ahead : Value}
    {od_may_start an_may_start : Option Addr} {sl_may_start : Array (Option Value)} {oc_may_start kV_may_start dc_may_start pm_may_start cd_may_start ct_may_start : Value}
    {od_started an_started : Option Addr} {sl_started : Array (Option Value)} {oc_started kV_started dc_started pm_started cd_started ct_started : Value}
    {od_answer_of an_answer_of : Option Addr} {sl_answer_of : Array (Option Value)} {oc_answer_of kV_answer_of dc_answer_of pm_answer_of cd_answer_of ct_answer_of : Value}
    {od_answers an_answers : Option Addr} {sl_answers : Array (Option Value)} {oc_answers kV_answers dc_answers pm_answers cd_answers ct_answers : Value}
    {o_WIDTHS : Obj} {its_WIDTHS : Array Value} {n_WIDTHS : Nat}
    (no_len : PySem.W.nsIn K mainGlobals "len" = some none)
    (no_max : PySem.W.nsIn K mainGlobals "max" = some none)
    (no_min : PySem.W.nsIn K mainGlobals "min" = some none)
    (no_range : PySem.W.nsIn K mainGlobals "range" = some none)
    (k_START : PySem.W.nsIn K mainGlobals "START" = some (some (.int 0 t_START)))
    (k_LEG : PySem.W.nsIn K mainGlobals "LEG" = some (some (.int 1 t_LEG)))
    (k_PERSONS : PySem.W.nsIn K mainGlobals "PERSONS" = some (some (.int 2 t_PERSONS)))
    (k_SET : PySem.W.nsIn K mainGlobals "SET" = some (some (.int 3 t_SET)))
    (k_BUNKER : PySem.W.nsIn K mainGlobals "BUNKER" = some (some (.int 4 t_BUNKER)))
    (k_ASHORE : PySem.W.nsIn K mainGlobals "ASHORE" = some (some (.int 5 t_ASHORE)))
    (k_HOURS : PySem.W.nsIn K mainGlobals "HOURS" = some (some (.int 6 t_HOURS)))
    (k_LASTS : PySem.W.nsIn K mainGlobals "LASTS" = some (some (.int 7 t_LASTS)))
    (k_NEXT_GO : PySem.W.nsIn K mainGlobals "NEXT_GO" = some (some (.int 8 t_NEXT_GO)))
    (k_MAY : PySem.W.nsIn K mainGlobals "MAY" = some (some (.int 9 t_MAY)))
    (k_AHEAD : PySem.W.nsIn K mainGlobals "AHEAD" = some (some (.int 10 t_AHEAD)))
    (k_ROOM : PySem.W.nsIn K mainGlobals "ROOM" = some (some (.int 11 t_ROOM)))
    (k_WANTS : PySem.W.nsIn K mainGlobals "WANTS" = some (some (.int 12 t_WANTS)))
    (k_WHERE : PySem.W.nsIn K mainGlobals "WHERE" = some (some (.int 13 t_WHERE)))
    (k_LOOK : PySem.W.nsIn K mainGlobals "LOOK" = some (some (.int 14 t_LOOK)))
    (k_END : PySem.W.nsIn K mainGlobals "END" = some (some (.int 15 t_END)))
    (k_FULL : PySem.W.nsIn K mainGlobals "FULL" = some (some (.int 16 t_FULL)))
    (k_TANKS : PySem.W.nsIn K mainGlobals "TANKS" = some (some (.int 17 t_TANKS)))
    (k_FLOWS : PySem.W.nsIn K mainGlobals "FLOWS" = some (some (.int 18 t_FLOWS)))
    (k_BACK : PySem.W.nsIn K mainGlobals "BACK" = some (some (.int 20 t_BACK)))
    (k_AGAIN : PySem.W.nsIn K mainGlobals "AGAIN" = some (some (.int 21 t_AGAIN)))
    (k_STATE : PySem.W.nsIn K mainGlobals "STATE" = some (some (.int 22 t_STATE)))
    (k_NONE_THERE : PySem.W.nsIn K mainGlobals "NONE_THERE" = some (some (.int (-2) t_NONE_THERE)))
    (k_TOO_LITTLE : PySem.W.nsIn K mainGlobals "TOO_LITTLE" = some (some (.int (-12) t_TOO_LITTLE)))
    (k_NOT_HERE : PySem.W.nsIn K mainGlobals "NOT_HERE" = some (some (.int (-16) t_NOT_HERE)))
    (k_SO_ALREADY : PySem.W.nsIn K mainGlobals "SO_ALREADY" = some (some (.int (-17) t_SO_ALREADY)))
    (k_WRONG_NUMBER : PySem.W.nsIn K mainGlobals "WRONG_NUMBER" = some (some (.int (-22) t_WRONG_NUMBER)))
    (k_NO_MORE : PySem.W.nsIn K mainGlobals "NO_MORE" = some (some (.int (-28) t_NO_MORE)))
    (k_NOT_SOON : PySem.W.nsIn K mainGlobals "NOT_SOON" = some (some (.int (-33) t_NOT_SOON)))
    (k_NO_ROOM : PySem.W.nsIn K mainGlobals "NO_ROOM" = some (some (.int (-62) t_NO_ROOM)))
    (k_TOO_LATE : PySem.W.nsIn K mainGlobals "TOO_LATE" = some (some (.int (-75) t_TOO_LATE)))
    (k_MOST_KEPT : PySem.W.nsIn K mainGlobals "MOST_KEPT" = some (some (.int 30 t_MOST_KEPT)))
    (k_MOST_LEGS : PySem.W.nsIn K mainGlobals "MOST_LEGS" = some (some (.int 10 t_MOST_LEGS)))
    (k_MOST_LEG_HOURS : PySem.W.nsIn K mainGlobals "MOST_LEG_HOURS" = some (some (.int 500 t_MOST_LEG_HOURS)))
    (k_MOST_MILES : PySem.W.nsIn K mainGlobals "MOST_MILES" = some (some (.int 1000 t_MOST_MILES)))
    (k_MOST_KNOTS : PySem.W.nsIn K mainGlobals "MOST_KNOTS" = some (some (.int 40 t_MOST_KNOTS)))
    (k_LAST_HOUR : PySem.W.nsIn K mainGlobals "LAST_HOUR" = some (some (.int 10000 t_LAST_HOUR)))
    (k_MAKING_MILES : PySem.W.nsIn K mainGlobals "MAKING_MILES" = some (some (.int 12 t_MAKING_MILES)))
    (k_GREY_MILES : PySem.W.nsIn K mainGlobals "GREY_MILES" = some (some (.int 4 t_GREY_MILES)))
    (k_GREY_KNOTS : PySem.W.nsIn K mainGlobals "GREY_KNOTS" = some (some (.int 6 t_GREY_KNOTS)))
    (k_BLACK_MILES : PySem.W.nsIn K mainGlobals "BLACK_MILES" = some (some (.int 12 t_BLACK_MILES)))
    (k_BLACK_KNOTS : PySem.W.nsIn K mainGlobals "BLACK_KNOTS" = some (some (.int 4 t_BLACK_KNOTS)))
    (k_MOST_PERSONS : PySem.W.nsIn K mainGlobals "MOST_PERSONS" = some (some (.int 5000 t_MOST_PERSONS)))
    (k_MOST_USES : PySem.W.nsIn K mainGlobals "MOST_USES" = some (some (.int 80 t_MOST_USES)))
    (k_MOST_HOURS_AT_ONCE : PySem.W.nsIn K mainGlobals "MOST_HOURS_AT_ONCE" = some (some (.int 500 t_MOST_HOURS_AT_ONCE)))
    (k_MOST_TAKEN_IN : PySem.W.nsIn K mainGlobals "MOST_TAKEN_IN" = some (some (.int 1000000000 t_MOST_TAKEN_IN)))
    (k_MOST_HOURS_AHEAD : PySem.W.nsIn K mainGlobals "MOST_HOURS_AHEAD" = some (some (.int 500 t_MOST_HOURS_AHEAD)))
    (k_MOST_LITRES : PySem.W.nsIn K mainGlobals "MOST_LITRES" = some (some (.int 10000000 t_MOST_LITRES)))
    (p1_WIDTHS : PySem.W.nsIn K mainGlobals "WIDTHS" = some (some (.ref p_WIDTHS)))
    (p2_WIDTHS : K.lookup p_WIDTHS = some o_WIDTHS)
    (p3_WIDTHS : o_WIDTHS.cls = .type "tuple")
    (p4_WIDTHS : o_WIDTHS.data = .seq its_WIDTHS n_WIDTHS)
    (p5_WIDTHS : its_WIDTHS.size ≤ sizeLine)
    (p6_WIDTHS : Vals (([6, 3, 2, 3, 1, 2, 1, 0, 0, 0, 1, 0, 0, 1, 1, 0, 1, 0, 0, 0, 0, 0, 0] : List Int).map V.int) its_WIDTHS.toList)
    (cC_Sizes : PySem.W.nsIn K mainGlobals "Sizes" = some (some (.ref C_Sizes)))
    (pg_Sizes : PySem.W.plainGet K C_Sizes Str.empty = true)
    (hd_Sizes : PySem.W.hasDictIn K C_Sizes = true)
    (po_Sizes : PySem.W.plainOver K C_Sizes = true)
    (sa_Sizes : PySem.W.findIn K (.ref C_Sizes) "__setattr__" = some (some (.builtin "object.__setattr__")))
    (mk_Sizes : PySem.W.makesIn K C_Sizes = true)
    (kc_Sizes : PySem.W.keepIn K (.ref C_Sizes) = true)
    (n_Sizes_fresh : PySem.W.findIn K (.ref C_Sizes) "fresh" = some none)
    (n_Sizes_makes : PySem.W.findIn K (.ref C_Sizes) "makes" = some none)
    (n_Sizes_grey : PySem.W.findIn K (.ref C_Sizes) "grey" = some none)
    (n_Sizes_grey_go : PySem.W.findIn K (.ref C_Sizes) "grey_go" = some none)
    (n_Sizes_black : PySem.W.findIn K (.ref C_Sizes) "black" = some none)
    (n_Sizes_black_go : PySem.W.findIn K (.ref C_Sizes) "black_go" = some none)
    (cC_State : PySem.W.nsIn K mainGlobals "State" = some (some (.ref C_State)))
    (pg_State : PySem.W.plainGet K C_State Str.empty = true)
    (hd_State : PySem.W.hasDictIn K C_State = true)
    (po_State : PySem.W.plainOver K C_State = true)
    (sa_State : PySem.W.findIn K (.ref C_State) "__setattr__" = some (some (.builtin "object.__setattr__")))
    (mk_State : PySem.W.makesIn K C_State = true)
    (kc_State : PySem.W.keepIn K (.ref C_State) = true)
    (n_State_sizes : PySem.W.findIn K (.ref C_State) "sizes" = some none)
    (n_State_legs : PySem.W.findIn K (.ref C_State) "legs" = some none)
    (n_State_hour : PySem.W.findIn K (.ref C_State) "hour" = some none)
    (n_State_persons : PySem.W.findIn K (.ref C_State) "persons" = some none)
    (n_State_uses : PySem.W.findIn K (.ref C_State) "uses" = some none)
    (n_State_making : PySem.W.findIn K (.ref C_State) "making" = some none)
    (n_State_letting_grey : PySem.W.findIn K (.ref C_State) "letting_grey" = some none)
    (n_State_letting_black : PySem.W.findIn K (.ref C_State) "letting_black" = some none)
    (n_State_fresh : PySem.W.findIn K (.ref C_State) "fresh" = some none)
    (n_State_grey : PySem.W.findIn K (.ref C_State) "grey" = some none)
    (n_State_black : PySem.W.findIn K (.ref C_State) "black" = some none)
    (n_State_taken_in : PySem.W.findIn K (.ref C_State) "taken_in" = some none)
    (n_State_used : PySem.W.findIn K (.ref C_State) "used" = some none)
    (n_State_grey_gone : PySem.W.findIn K (.ref C_State) "grey_gone" = some none)
    (n_State_black_gone : PySem.W.findIn K (.ref C_State) "black_gone" = some none)
    (n_State_ashore : PySem.W.findIn K (.ref C_State) "ashore" = some none)
    (n_State_lacked : PySem.W.findIn K (.ref C_State) "lacked" = some none)
    (cC_Ship : PySem.W.nsIn K mainGlobals "Ship" = some (some (.ref C_Ship)))
    (pg_Ship : PySem.W.plainGet K C_Ship Str.empty = true)
    (hd_Ship : PySem.W.hasDictIn K C_Ship = true)
    (po_Ship : PySem.W.plainOver K C_Ship = true)
    (sa_Ship : PySem.W.findIn K (.ref C_Ship) "__setattr__" = some (some (.builtin "object.__setattr__")))
    (mk_Ship : PySem.W.makesIn K C_Ship = true)
    (kc_Ship : PySem.W.keepIn K (.ref C_Ship) = true)
    (n_Ship_now : PySem.W.findIn K (.ref C_Ship) "now" = some none)
    (n_Ship_earlier : PySem.W.findIn K (.ref C_Ship) "earlier" = some none)
    (n_Ship_undone : PySem.W.findIn K (.ref C_Ship) "undone" = some none)
    (cC_Leg : PySem.W.nsIn K mainGlobals "Leg" = some (some (.ref C_Leg)))
    (pg_Leg : PySem.W.plainGet K C_Leg Str.empty = true)
    (hd_Leg : PySem.W.hasDictIn K C_Leg = true)
    (po_Leg : PySem.W.plainOver K C_Leg = true)
    (sa_Leg : PySem.W.findIn K (.ref C_Leg) "__setattr__" = some (some (.builtin "object.__setattr__")))
    (mk_Leg : PySem.W.makesIn K C_Leg = true)
    (kc_Leg : PySem.W.keepIn K (.ref C_Leg) = true)
    (n_Leg_end : PySem.W.findIn K (.ref C_Leg) "end" = some none)
    (n_Leg_miles : PySem.W.findIn K (.ref C_Leg) "miles" = some none)
    (n_Leg_knots : PySem.W.findIn K (.ref C_Leg) "knots" = some none)
    (a_Sizes_init : PySem.W.findIn K (.ref C_Sizes) "__init__" = some (some (.ref f_Sizes_init)))
    (i_Sizes_init : PySem.W.isFn K (.ref f_Sizes_init) = true)
    (l_Sizes_init : K.lookup f_Sizes_init = some ⟨oc_Sizes_init, od_Sizes_init, .func (PySem.W.fnOf "__init__" "Sizes.__init__" (defArgs s_Sizes_init) (defBody s_Sizes_init) (defScope s_Sizes_init) .none kV_Sizes_init dc_Sizes_init pm_Sizes_init an_Sizes_init cd_Sizes_init ct_Sizes_init), sl_Sizes_init⟩)
    (c_Sizes_init : PySem.W.codeIn K cd_Sizes_init "Sizes.__init__" = true)
    (kp_Sizes_init : PySem.W.keepIn K (.ref f_Sizes_init) = true)
    (a_State_init : PySem.W.findIn K (.ref C_State) "__init__" = some (some (.ref f_State_init)))
    (i_State_init : PySem.W.isFn K (.ref f_State_init) = true)
    (l_State_init : K.lookup f_State_init = some ⟨oc_State_init, od_State_init, .func (PySem.W.fnOf "__init__" "State.__init__" (defArgs s_State_init) (defBody s_State_init) (defScope s_State_init) .none kV_State_init dc_State_init pm_State_init an_State_init cd_State_init ct_State_init), sl_State_init⟩)
    (c_State_init : PySem.W.codeIn K cd_State_init "State.__init__" = true)
    (kp_State_init : PySem.W.keepIn K (.ref f_State_init) = true)
    (a_copy_of : PySem.W.nsIn K mainGlobals "copy_of" = some (some (.ref f_copy_of)))
    (l_copy_of : K.lookup f_copy_of = some ⟨oc_copy_of, od_copy_of, .func (PySem.W.fnOf "copy_of" "copy_of" (defArgs s_copy_of) (defBody s_copy_of) (defScope s_copy_of) .none kV_copy_of dc_copy_of pm_copy_of an_copy_of cd_copy_of ct_copy_of), sl_copy_of⟩)
    (c_copy_of : PySem.W.codeIn K cd_copy_of "copy_of" = true)
    (kp_copy_of : PySem.W.keepIn K (.ref f_copy_of) = true)
    (a_switches : PySem.W.nsIn K mainGlobals "switches" = some (some (.ref f_switches)))
    (l_switches : K.lookup f_switches = some ⟨oc_switches, od_switches, .func (PySem.W.fnOf "switches" "switches" (defArgs s_switches) (defBody s_switches) (defScope s_switches) .none kV_switches dc_switches pm_switches an_switches cd_switches ct_switches), sl_switches⟩)
    (c_switches : PySem.W.codeIn K cd_switches "switches" = true)
    (kp_switches : PySem.W.keepIn K (.ref f_switches) = true)
    (a_what_is_set : PySem.W.nsIn K mainGlobals "what_is_set" = some (some (.ref f_what_is_set)))
    (l_what_is_set : K.lookup f_what_is_set = some ⟨oc_what_is_set, od_what_is_set, .func (PySem.W.fnOf "what_is_set" "what_is_set" (defArgs s_what_is_set) (defBody s_what_is_set) (defScope s_what_is_set) .none kV_what_is_set dc_what_is_set pm_what_is_set an_what_is_set cd_what_is_set ct_what_is_set), sl_what_is_set⟩)
    (c_what_is_set : PySem.W.codeIn K cd_what_is_set "what_is_set" = true)
    (kp_what_is_set : PySem.W.keepIn K (.ref f_what_is_set) = true)
    (a_wanted : PySem.W.nsIn K mainGlobals "wanted" = some (some (.ref f_wanted)))
    (l_wanted : K.lookup f_wanted = some ⟨oc_wanted, od_wanted, .func (PySem.W.fnOf "wanted" "wanted" (defArgs s_wanted) (defBody s_wanted) (defScope s_wanted) .none kV_wanted dc_wanted pm_wanted an_wanted cd_wanted ct_wanted), sl_wanted⟩)
    (c_wanted : PySem.W.codeIn K cd_wanted "wanted" = true)
    (kp_wanted : PySem.W.keepIn K (.ref f_wanted) = true)
    (a_Ship_init : PySem.W.findIn K (.ref C_Ship) "__init__" = some (some (.ref f_Ship_init)))
    (i_Ship_init : PySem.W.isFn K (.ref f_Ship_init) = true)
    (l_Ship_init : K.lookup f_Ship_init = some ⟨oc_Ship_init, od_Ship_init, .func (PySem.W.fnOf "__init__" "Ship.__init__" (defArgs s_Ship_init) (defBody s_Ship_init) (defScope s_Ship_init) .none kV_Ship_init dc_Ship_init pm_Ship_init an_Ship_init cd_Ship_init ct_Ship_init), sl_Ship_init⟩)
    (c_Ship_init : PySem.W.codeIn K cd_Ship_init "Ship.__init__" = true)
    (kp_Ship_init : PySem.W.keepIn K (.ref f_Ship_init) = true)
    (a_Ship_keep : PySem.W.findIn K (.ref C_Ship) "keep" = some (some (.ref f_Ship_keep)))
    (i_Ship_keep : PySem.W.isFn K (.ref f_Ship_keep) = true)
    (l_Ship_keep : K.lookup f_Ship_keep = some ⟨oc_Ship_keep, od_Ship_keep, .func (PySem.W.fnOf "keep" "Ship.keep" (defArgs s_Ship_keep) (defBody s_Ship_keep) (defScope s_Ship_keep) .none kV_Ship_keep dc_Ship_keep pm_Ship_keep an_Ship_keep cd_Ship_keep ct_Ship_keep), sl_Ship_keep⟩)
    (c_Ship_keep : PySem.W.codeIn K cd_Ship_keep "Ship.keep" = true)
    (kp_Ship_keep : PySem.W.keepIn K (.ref f_Ship_keep) = true)
    (a_Ship_take_back : PySem.W.findIn K (.ref C_Ship) "take_back" = some (some (.ref f_Ship_take_back)))
    (i_Ship_take_back : PySem.W.isFn K (.ref f_Ship_take_back) = true)
    (l_Ship_take_back : K.lookup f_Ship_take_back = some ⟨oc_Ship_take_back, od_Ship_take_back, .func (PySem.W.fnOf "take_back" "Ship.take_back" (defArgs s_Ship_take_back) (defBody s_Ship_take_back) (defScope s_Ship_take_back) .none kV_Ship_take_back dc_Ship_take_back pm_Ship_take_back an_Ship_take_back cd_Ship_take_back ct_Ship_take_back), sl_Ship_take_back⟩)
    (c_Ship_take_back : PySem.W.codeIn K cd_Ship_take_back "Ship.take_back" = true)
    (kp_Ship_take_back : PySem.W.keepIn K (.ref f_Ship_take_back) = true)
    (a_Ship_do_again : PySem.W.findIn K (.ref C_Ship) "do_again" = some (some (.ref f_Ship_do_again)))
    (i_Ship_do_again : PySem.W.isFn K (.ref f_Ship_do_again) = true)
    (l_Ship_do_again : K.lookup f_Ship_do_again = some ⟨oc_Ship_do_again, od_Ship_do_again, .func (PySem.W.fnOf "do_again" "Ship.do_again" (defArgs s_Ship_do_again) (defBody s_Ship_do_again) (defScope s_Ship_do_again) .none kV_Ship_do_again dc_Ship_do_again pm_Ship_do_again an_Ship_do_again cd_Ship_do_again ct_Ship_do_again), sl_Ship_do_again⟩)
    (c_Ship_do_again : PySem.W.codeIn K cd_Ship_do_again "Ship.do_again" = true)
    (kp_Ship_do_again : PySem.W.keepIn K (.ref f_Ship_do_again) = true)
    (a_Leg_init : PySem.W.findIn K (.ref C_Leg) "__init__" = some (some (.ref f_Leg_init)))
    (i_Leg_init : PySem.W.isFn K (.ref f_Leg_init) = true)
    (l_Leg_init : K.lookup f_Leg_init = some ⟨oc_Leg_init, od_Leg_init, .func (PySem.W.fnOf "__init__" "Leg.__init__" (defArgs s_Leg_init) (defBody s_Leg_init) (defScope s_Leg_init) .none kV_Leg_init dc_Leg_init pm_Leg_init an_Leg_init cd_Leg_init ct_Leg_init), sl_Leg_init⟩)
    (c_Leg_init : PySem.W.codeIn K cd_Leg_init "Leg.__init__" = true)
    (kp_Leg_init : PySem.W.keepIn K (.ref f_Leg_init) = true)
    (a_way_end : PySem.W.nsIn K mainGlobals "way_end" = some (some (.ref f_way_end)))
    (l_way_end : K.lookup f_way_end = some ⟨oc_way_end, od_way_end, .func (PySem.W.fnOf "way_end" "way_end" (defArgs s_way_end) (defBody s_way_end) (defScope s_way_end) .none kV_way_end dc_way_end pm_way_end an_way_end cd_way_end ct_way_end), sl_way_end⟩)
    (c_way_end : PySem.W.codeIn K cd_way_end "way_end" = true)
    (kp_way_end : PySem.W.keepIn K (.ref f_way_end) = true)
    (a_leg_in : PySem.W.nsIn K mainGlobals "leg_in" = some (some (.ref f_leg_in)))
    (l_leg_in : K.lookup f_leg_in = some ⟨oc_leg_in, od_leg_in, .func (PySem.W.fnOf "leg_in" "leg_in" (defArgs s_leg_in) (defBody s_leg_in) (defScope s_leg_in) .none kV_leg_in dc_leg_in pm_leg_in an_leg_in cd_leg_in ct_leg_in), sl_leg_in⟩)
    (c_leg_in : PySem.W.codeIn K cd_leg_in "leg_in" = true)
    (kp_leg_in : PySem.W.keepIn K (.ref f_leg_in) = true)
    (a_in_port : PySem.W.nsIn K mainGlobals "in_port" = some (some (.ref f_in_port)))
    (l_in_port : K.lookup f_in_port = some ⟨oc_in_port, od_in_port, .func (PySem.W.fnOf "in_port" "in_port" (defArgs s_in_port) (defBody s_in_port) (defScope s_in_port) .none kV_in_port dc_in_port pm_in_port an_in_port cd_in_port ct_in_port), sl_in_port⟩)
    (c_in_port : PySem.W.codeIn K cd_in_port "in_port" = true)
    (kp_in_port : PySem.W.keepIn K (.ref f_in_port) = true)
    (a_may_make : PySem.W.nsIn K mainGlobals "may_make" = some (some (.ref f_may_make)))
    (l_may_make : K.lookup f_may_make = some ⟨oc_may_make, od_may_make, .func (PySem.W.fnOf "may_make" "may_make" (defArgs s_may_make) (defBody s_may_make) (defScope s_may_make) .none kV_may_make dc_may_make pm_may_make an_may_make cd_may_make ct_may_make), sl_may_make⟩)
    (c_may_make : PySem.W.codeIn K cd_may_make "may_make" = true)
    (kp_may_make : PySem.W.keepIn K (.ref f_may_make) = true)
    (a_may_let_grey : PySem.W.nsIn K mainGlobals "may_let_grey" = some (some (.ref f_may_let_grey)))
    (l_may_let_grey : K.lookup f_may_let_grey = some ⟨oc_may_let_grey, od_may_let_grey, .func (PySem.W.fnOf "may_let_grey" "may_let_grey" (defArgs s_may_let_grey) (defBody s_may_let_grey) (defScope s_may_let_grey) .none kV_may_let_grey dc_may_let_grey pm_may_let_grey an_may_let_grey cd_may_let_grey ct_may_let_grey), sl_may_let_grey⟩)
    (c_may_let_grey : PySem.W.codeIn K cd_may_let_grey "may_let_grey" = true)
    (kp_may_let_grey : PySem.W.keepIn K (.ref f_may_let_grey) = true)
    (a_may_let_black : PySem.W.nsIn K mainGlobals "may_let_black" = some (some (.ref f_may_let_black)))
    (l_may_let_black : K.lookup f_may_let_black = some ⟨oc_may_let_black, od_may_let_black, .func (PySem.W.fnOf "may_let_black" "may_let_black" (defArgs s_may_let_black) (defBody s_may_let_black) (defScope s_may_let_black) .none kV_may_let_black dc_may_let_black pm_may_let_black an_may_let_black cd_may_let_black ct_may_let_black), sl_may_let_black⟩)
    (c_may_let_black : PySem.W.codeIn K cd_may_let_black "may_let_black" = true)
    (kp_may_let_black : PySem.W.keepIn K (.ref f_may_let_black) = true)
    (a_grey_let_go : PySem.W.nsIn K mainGlobals "grey_let_go" = some (some (.ref f_grey_let_go)))
    (l_grey_let_go : K.lookup f_grey_let_go = some ⟨oc_grey_let_go, od_grey_let_go, .func (PySem.W.fnOf "grey_let_go" "grey_let_go" (defArgs s_grey_let_go) (defBody s_grey_let_go) (defScope s_grey_let_go) .none kV_grey_let_go dc_grey_let_go pm_grey_let_go an_grey_let_go cd_grey_let_go ct_grey_let_go), sl_grey_let_go⟩)
    (c_grey_let_go : PySem.W.codeIn K cd_grey_let_go "grey_let_go" = true)
    (kp_grey_let_go : PySem.W.keepIn K (.ref f_grey_let_go) = true)
    (a_black_let_go : PySem.W.nsIn K mainGlobals "black_let_go" = some (some (.ref f_black_let_go)))
    (l_black_let_go : K.lookup f_black_let_go = some ⟨oc_black_let_go, od_black_let_go, .func (PySem.W.fnOf "black_let_go" "black_let_go" (defArgs s_black_let_go) (defBody s_black_let_go) (defScope s_black_let_go) .none kV_black_let_go dc_black_let_go pm_black_let_go an_black_let_go cd_black_let_go ct_black_let_go), sl_black_let_go⟩)
    (c_black_let_go : PySem.W.codeIn K cd_black_let_go "black_let_go" = true)
    (kp_black_let_go : PySem.W.keepIn K (.ref f_black_let_go) = true)
    (a_water_made : PySem.W.nsIn K mainGlobals "water_made" = some (some (.ref f_water_made)))
    (l_water_made : K.lookup f_water_made = some ⟨oc_water_made, od_water_made, .func (PySem.W.fnOf "water_made" "water_made" (defArgs s_water_made) (defBody s_water_made) (defScope s_water_made) .none kV_water_made dc_water_made pm_water_made an_water_made cd_water_made ct_water_made), sl_water_made⟩)
    (c_water_made : PySem.W.codeIn K cd_water_made "water_made" = true)
    (kp_water_made : PySem.W.keepIn K (.ref f_water_made) = true)
    (a_grey_part : PySem.W.nsIn K mainGlobals "grey_part" = some (some (.ref f_grey_part)))
    (l_grey_part : K.lookup f_grey_part = some ⟨oc_grey_part, od_grey_part, .func (PySem.W.fnOf "grey_part" "grey_part" (defArgs s_grey_part) (defBody s_grey_part) (defScope s_grey_part) .none kV_grey_part dc_grey_part pm_grey_part an_grey_part cd_grey_part ct_grey_part), sl_grey_part⟩)
    (c_grey_part : PySem.W.codeIn K cd_grey_part "grey_part" = true)
    (kp_grey_part : PySem.W.keepIn K (.ref f_grey_part) = true)
    (a_water_used : PySem.W.nsIn K mainGlobals "water_used" = some (some (.ref f_water_used)))
    (l_water_used : K.lookup f_water_used = some ⟨oc_water_used, od_water_used, .func (PySem.W.fnOf "water_used" "water_used" (defArgs s_water_used) (defBody s_water_used) (defScope s_water_used) .none kV_water_used dc_water_used pm_water_used an_water_used cd_water_used ct_water_used), sl_water_used⟩)
    (c_water_used : PySem.W.codeIn K cd_water_used "water_used" = true)
    (kp_water_used : PySem.W.keepIn K (.ref f_water_used) = true)
    (a_let_go : PySem.W.nsIn K mainGlobals "let_go" = some (some (.ref f_let_go)))
    (l_let_go : K.lookup f_let_go = some ⟨oc_let_go, od_let_go, .func (PySem.W.fnOf "let_go" "let_go" (defArgs s_let_go) (defBody s_let_go) (defScope s_let_go) .none kV_let_go dc_let_go pm_let_go an_let_go cd_let_go ct_let_go), sl_let_go⟩)
    (c_let_go : PySem.W.codeIn K cd_let_go "let_go" = true)
    (kp_let_go : PySem.W.keepIn K (.ref f_let_go) = true)
    (a_make_water : PySem.W.nsIn K mainGlobals "make_water" = some (some (.ref f_make_water)))
    (l_make_water : K.lookup f_make_water = some ⟨oc_make_water, od_make_water, .func (PySem.W.fnOf "make_water" "make_water" (defArgs s_make_water) (defBody s_make_water) (defScope s_make_water) .none kV_make_water dc_make_water pm_make_water an_make_water cd_make_water ct_make_water), sl_make_water⟩)
    (c_make_water : PySem.W.codeIn K cd_make_water "make_water" = true)
    (kp_make_water : PySem.W.keepIn K (.ref f_make_water) = true)
    (a_use_water : PySem.W.nsIn K mainGlobals "use_water" = some (some (.ref f_use_water)))
    (l_use_water : K.lookup f_use_water = some ⟨oc_use_water, od_use_water, .func (PySem.W.fnOf "use_water" "use_water" (defArgs s_use_water) (defBody s_use_water) (defScope s_use_water) .none kV_use_water dc_use_water pm_use_water an_use_water cd_use_water ct_use_water), sl_use_water⟩)
    (c_use_water : PySem.W.codeIn K cd_use_water "use_water" = true)
    (kp_use_water : PySem.W.keepIn K (.ref f_use_water) = true)
    (a_pass_hour : PySem.W.nsIn K mainGlobals "pass_hour" = some (some (.ref f_pass_hour)))
    (l_pass_hour : K.lookup f_pass_hour = some ⟨oc_pass_hour, od_pass_hour, .func (PySem.W.fnOf "pass_hour" "pass_hour" (defArgs s_pass_hour) (defBody s_pass_hour) (defScope s_pass_hour) .none kV_pass_hour dc_pass_hour pm_pass_hour an_pass_hour cd_pass_hour ct_pass_hour), sl_pass_hour⟩)
    (c_pass_hour : PySem.W.codeIn K cd_pass_hour "pass_hour" = true)
    (kp_pass_hour : PySem.W.keepIn K (.ref f_pass_hour) = true)
    (a_pass_hours : PySem.W.nsIn K mainGlobals "pass_hours" = some (some (.ref f_pass_hours)))
    (l_pass_hours : K.lookup f_pass_hours = some ⟨oc_pass_hours, od_pass_hours, .func (PySem.W.fnOf "pass_hours" "pass_hours" (defArgs s_pass_hours) (defBody s_pass_hours) (defScope s_pass_hours) .none kV_pass_hours dc_pass_hours pm_pass_hours an_pass_hours cd_pass_hours ct_pass_hours), sl_pass_hours⟩)
    (c_pass_hours : PySem.W.codeIn K cd_pass_hours "pass_hours" = true)
    (kp_pass_hours : PySem.W.keepIn K (.ref f_pass_hours) = true)
    (a_may_now : PySem.W.nsIn K mainGlobals "may_now" = some (some (.ref f_may_now)))
    (l_may_now : K.lookup f_may_now = some ⟨oc_may_now, od_may_now, .func (PySem.W.fnOf "may_now" "may_now" (defArgs s_may_now) (defBody s_may_now) (defScope s_may_now) .none kV_may_now dc_may_now pm_may_now an_may_now cd_may_now ct_may_now), sl_may_now⟩)
    (c_may_now : PySem.W.codeIn K cd_may_now "may_now" = true)
    (kp_may_now : PySem.W.keepIn K (.ref f_may_now) = true)
    (a_room : PySem.W.nsIn K mainGlobals "room" = some (some (.ref f_room)))
    (l_room : K.lookup f_room = some ⟨oc_room, od_room, .func (PySem.W.fnOf "room" "room" (defArgs s_room) (defBody s_room) (defScope s_room) .none kV_room dc_room pm_room an_room cd_room ct_room), sl_room⟩)
    (c_room : PySem.W.codeIn K cd_room "room" = true)
    (kp_room : PySem.W.keepIn K (.ref f_room) = true)
    (a_wants : PySem.W.nsIn K mainGlobals "wants" = some (some (.ref f_wants)))
    (l_wants : K.lookup f_wants = some ⟨oc_wants, od_wants, .func (PySem.W.fnOf "wants" "wants" (defArgs s_wants) (defBody s_wants) (defScope s_wants) .none kV_wants dc_wants pm_wants an_wants cd_wants ct_wants), sl_wants⟩)
    (c_wants : PySem.W.codeIn K cd_wants "wants" = true)
    (kp_wants : PySem.W.keepIn K (.ref f_wants) = true)
    (a_where : PySem.W.nsIn K mainGlobals "where" = some (some (.ref f_where)))
    (l_where : K.lookup f_where = some ⟨oc_where, od_where, .func (PySem.W.fnOf "where" "where" (defArgs s_where) (defBody s_where) (defScope s_where) .none kV_where dc_where pm_where an_where cd_where ct_where), sl_where⟩)
    (c_where : PySem.W.codeIn K cd_where "where" = true)
    (kp_where : PySem.W.keepIn K (.ref f_where) = true)
    (a_look : PySem.W.nsIn K mainGlobals "look" = some (some (.ref f_look)))
    (l_look : K.lookup f_look = some ⟨oc_look, od_look, .func (PySem.W.fnOf "look" "look" (defArgs s_look) (defBody s_look) (defScope s_look) .none kV_look dc_look pm_look an_look cd_look ct_look), sl_look⟩)
    (c_look : PySem.W.codeIn K cd_look "look" = true)
    (kp_look : PySem.W.keepIn K (.ref f_look) = true)
    (a_end : PySem.W.nsIn K mainGlobals "end" = some (some (.ref f_end)))
    (l_end : K.lookup f_end = some ⟨oc_end, od_end, .func (PySem.W.fnOf "end" "end" (defArgs s_end) (defBody s_end) (defScope s_end) .none kV_end dc_end pm_end an_end cd_end ct_end), sl_end⟩)
    (c_end : PySem.W.codeIn K cd_end "end" = true)
    (kp_end : PySem.W.keepIn K (.ref f_end) = true)
    (a_tanks : PySem.W.nsIn K mainGlobals "tanks" = some (some (.ref f_tanks)))
    (l_tanks : K.lookup f_tanks = some ⟨oc_tanks, od_tanks, .func (PySem.W.fnOf "tanks" "tanks" (defArgs s_tanks) (defBody s_tanks) (defScope s_tanks) .none kV_tanks dc_tanks pm_tanks an_tanks cd_tanks ct_tanks), sl_tanks⟩)
    (c_tanks : PySem.W.codeIn K cd_tanks "tanks" = true)
    (kp_tanks : PySem.W.keepIn K (.ref f_tanks) = true)
    (a_sums : PySem.W.nsIn K mainGlobals "sums" = some (some (.ref f_sums)))
    (l_sums : K.lookup f_sums = some ⟨oc_sums, od_sums, .func (PySem.W.fnOf "sums" "sums" (defArgs s_sums) (defBody s_sums) (defScope s_sums) .none kV_sums dc_sums pm_sums an_sums cd_sums ct_sums), sl_sums⟩)
    (c_sums : PySem.W.codeIn K cd_sums "sums" = true)
    (kp_sums : PySem.W.keepIn K (.ref f_sums) = true)
    (a_ask : PySem.W.nsIn K mainGlobals "ask" = some (some (.ref f_ask)))
    (l_ask : K.lookup f_ask = some ⟨oc_ask, od_ask, .func (PySem.W.fnOf "ask" "ask" (defArgs s_ask) (defBody s_ask) (defScope s_ask) .none kV_ask dc_ask pm_ask an_ask cd_ask ct_ask), sl_ask⟩)
    (c_ask : PySem.W.codeIn K cd_ask "ask" = true)
    (kp_ask : PySem.W.keepIn K (.ref f_ask) = true)
    (a_add_leg : PySem.W.nsIn K mainGlobals "add_leg" = some (some (.ref f_add_leg)))
    (l_add_leg : K.lookup f_add_leg = some ⟨oc_add_leg, od_add_leg, .func (PySem.W.fnOf "add_leg" "add_leg" (defArgs s_add_leg) (defBody s_add_leg) (defScope s_add_leg) .none kV_add_leg dc_add_leg pm_add_leg an_add_leg cd_add_leg ct_add_leg), sl_add_leg⟩)
    (c_add_leg : PySem.W.codeIn K cd_add_leg "add_leg" = true)
    (kp_add_leg : PySem.W.keepIn K (.ref f_add_leg) = true)
    (a_set_persons : PySem.W.nsIn K mainGlobals "set_persons" = some (some (.ref f_set_persons)))
    (l_set_persons : K.lookup f_set_persons = some ⟨oc_set_persons, od_set_persons, .func (PySem.W.fnOf "set_persons" "set_persons" (defArgs s_set_persons) (defBody s_set_persons) (defScope s_set_persons) .none kV_set_persons dc_set_persons pm_set_persons an_set_persons cd_set_persons ct_set_persons), sl_set_persons⟩)
    (c_set_persons : PySem.W.codeIn K cd_set_persons "set_persons" = true)
    (kp_set_persons : PySem.W.keepIn K (.ref f_set_persons) = true)
    (a_set_switches : PySem.W.nsIn K mainGlobals "set_switches" = some (some (.ref f_set_switches)))
    (l_set_switches : K.lookup f_set_switches = some ⟨oc_set_switches, od_set_switches, .func (PySem.W.fnOf "set_switches" "set_switches" (defArgs s_set_switches) (defBody s_set_switches) (defScope s_set_switches) .none kV_set_switches dc_set_switches pm_set_switches an_set_switches cd_set_switches ct_set_switches), sl_set_switches⟩)
    (c_set_switches : PySem.W.codeIn K cd_set_switches "set_switches" = true)
    (kp_set_switches : PySem.W.keepIn K (.ref f_set_switches) = true)
    (a_bunker : PySem.W.nsIn K mainGlobals "bunker" = some (some (.ref f_bunker)))
    (l_bunker : K.lookup f_bunker = some ⟨oc_bunker, od_bunker, .func (PySem.W.fnOf "bunker" "bunker" (defArgs s_bunker) (defBody s_bunker) (defScope s_bunker) .none kV_bunker dc_bunker pm_bunker an_bunker cd_bunker ct_bunker), sl_bunker⟩)
    (c_bunker : PySem.W.codeIn K cd_bunker "bunker" = true)
    (kp_bunker : PySem.W.keepIn K (.ref f_bunker) = true)
    (a_give_ashore : PySem.W.nsIn K mainGlobals "give_ashore" = some (some (.ref f_give_ashore)))
    (l_give_ashore : K.lookup f_give_ashore = some ⟨oc_give_ashore, od_give_ashore, .func (PySem.W.fnOf "give_ashore" "give_ashore" (defArgs s_give_ashore) (defBody s_give_ashore) (defScope s_give_ashore) .none kV_give_ashore dc_give_ashore pm_give_ashore an_give_ashore cd_give_ashore ct_give_ashore), sl_give_ashore⟩)
    (c_give_ashore : PySem.W.codeIn K cd_give_ashore "give_ashore" = true)
    (kp_give_ashore : PySem.W.keepIn K (.ref f_give_ashore) = true)
    (a_let_hours_go_by : PySem.W.nsIn K mainGlobals "let_hours_go_by" = some (some (.ref f_let_hours_go_by)))
    (l_let_hours_go_by : K.lookup f_let_hours_go_by = some ⟨oc_let_hours_go_by, od_let_hours_go_by, .func (PySem.W.fnOf "let_hours_go_by" "let_hours_go_by" (defArgs s_let_hours_go_by) (defBody s_let_hours_go_by) (defScope s_let_hours_go_by) .none kV_let_hours_go_by dc_let_hours_go_by pm_let_hours_go_by an_let_hours_go_by cd_let_hours_go_by ct_let_hours_go_by), sl_let_hours_go_by⟩)
    (c_let_hours_go_by : PySem.W.codeIn K cd_let_hours_go_by "let_hours_go_by" = true)
    (kp_let_hours_go_by : PySem.W.keepIn K (.ref f_let_hours_go_by) = true)
    (a_is_change : PySem.W.nsIn K mainGlobals "is_change" = some (some (.ref f_is_change)))
    (l_is_change : K.lookup f_is_change = some ⟨oc_is_change, od_is_change, .func (PySem.W.fnOf "is_change" "is_change" (defArgs s_is_change) (defBody s_is_change) (defScope s_is_change) .none kV_is_change dc_is_change pm_is_change an_is_change cd_is_change ct_is_change), sl_is_change⟩)
    (c_is_change : PySem.W.codeIn K cd_is_change "is_change" = true)
    (kp_is_change : PySem.W.keepIn K (.ref f_is_change) = true)
    (a_change_state : PySem.W.nsIn K mainGlobals "change_state" = some (some (.ref f_change_state)))
    (l_change_state : K.lookup f_change_state = some ⟨oc_change_state, od_change_state, .func (PySem.W.fnOf "change_state" "change_state" (defArgs s_change_state) (defBody s_change_state) (defScope s_change_state) .none kV_change_state dc_change_state pm_change_state an_change_state cd_change_state ct_change_state), sl_change_state⟩)
    (c_change_state : PySem.W.codeIn K cd_change_state "change_state" = true)
    (kp_change_state : PySem.W.keepIn K (.ref f_change_state) = true)
    (a_make_change : PySem.W.nsIn K mainGlobals "make_change" = some (some (.ref f_make_change)))
    (l_make_change : K.lookup f_make_change = some ⟨oc_make_change, od_make_change, .func (PySem.W.fnOf "make_change" "make_change" (defArgs s_make_change) (defBody s_make_change) (defScope s_make_change) .none kV_make_change dc_make_change pm_make_change an_make_change cd_make_change ct_make_change), sl_make_change⟩)
    (c_make_change : PySem.W.codeIn K cd_make_change "make_change" = true)
    (kp_make_change : PySem.W.keepIn K (.ref f_make_change) = true)
    (a_back : PySem.W.nsIn K mainGlobals "back" = some (some (.ref f_back)))
    (l_back : K.lookup f_back = some ⟨oc_back, od_back, .func (PySem.W.fnOf "back" "back" (defArgs s_back) (defBody s_back) (defScope s_back) .none kV_back dc_back pm_back an_back cd_back ct_back), sl_back⟩)
    (c_back : PySem.W.codeIn K cd_back "back" = true)
    (kp_back : PySem.W.keepIn K (.ref f_back) = true)
    (a_again : PySem.W.nsIn K mainGlobals "again" = some (some (.ref f_again)))
    (l_again : K.lookup f_again = some ⟨oc_again, od_again, .func (PySem.W.fnOf "again" "again" (defArgs s_again) (defBody s_again) (defScope s_again) .none kV_again dc_again pm_again an_again cd_again ct_again), sl_again⟩)
    (c_again : PySem.W.codeIn K cd_again "again" = true)
    (kp_again : PySem.W.keepIn K (.ref f_again) = true)
    (a_tell_state : PySem.W.nsIn K mainGlobals "tell_state" = some (some (.ref f_tell_state)))
    (l_tell_state : K.lookup f_tell_state = some ⟨oc_tell_state, od_tell_state, .func (PySem.W.fnOf "tell_state" "tell_state" (defArgs s_tell_state) (defBody s_tell_state) (defScope s_tell_state) .none kV_tell_state dc_tell_state pm_tell_state an_tell_state cd_tell_state ct_tell_state), sl_tell_state⟩)
    (c_tell_state : PySem.W.codeIn K cd_tell_state "tell_state" = true)
    (kp_tell_state : PySem.W.keepIn K (.ref f_tell_state) = true)
    (a_is_history : PySem.W.nsIn K mainGlobals "is_history" = some (some (.ref f_is_history)))
    (l_is_history : K.lookup f_is_history = some ⟨oc_is_history, od_is_history, .func (PySem.W.fnOf "is_history" "is_history" (defArgs s_is_history) (defBody s_is_history) (defScope s_is_history) .none kV_is_history dc_is_history pm_is_history an_is_history cd_is_history ct_is_history), sl_is_history⟩)
    (c_is_history : PySem.W.codeIn K cd_is_history "is_history" = true)
    (kp_is_history : PySem.W.keepIn K (.ref f_is_history) = true)
    (a_do_history : PySem.W.nsIn K mainGlobals "do_history" = some (some (.ref f_do_history)))
    (l_do_history : K.lookup f_do_history = some ⟨oc_do_history, od_do_history, .func (PySem.W.fnOf "do_history" "do_history" (defArgs s_do_history) (defBody s_do_history) (defScope s_do_history) .none kV_do_history dc_do_history pm_do_history an_do_history cd_do_history ct_do_history), sl_do_history⟩)
    (c_do_history : PySem.W.codeIn K cd_do_history "do_history" = true)
    (kp_do_history : PySem.W.keepIn K (.ref f_do_history) = true)
    (a_lasts : PySem.W.nsIn K mainGlobals "lasts" = some (some (.ref f_lasts)))
    (l_lasts : K.lookup f_lasts = some ⟨oc_lasts, od_lasts, .func (PySem.W.fnOf "lasts" "lasts" (defArgs s_lasts) (defBody s_lasts) (defScope s_lasts) .none kV_lasts dc_lasts pm_lasts an_lasts cd_lasts ct_lasts), sl_lasts⟩)
    (c_lasts : PySem.W.codeIn K cd_lasts "lasts" = true)
    (kp_lasts : PySem.W.keepIn K (.ref f_lasts) = true)
    (a_first_hour : PySem.W.nsIn K mainGlobals "first_hour" = some (some (.ref f_first_hour)))
    (l_first_hour : K.lookup f_first_hour = some ⟨oc_first_hour, od_first_hour, .func (PySem.W.fnOf "first_hour" "first_hour" (defArgs s_first_hour) (defBody s_first_hour) (defScope s_first_hour) .none kV_first_hour dc_first_hour pm_first_hour an_first_hour cd_first_hour ct_first_hour), sl_first_hour⟩)
    (c_first_hour : PySem.W.codeIn K cd_first_hour "first_hour" = true)
    (kp_first_hour : PySem.W.keepIn K (.ref f_first_hour) = true)
    (a_next_go : PySem.W.nsIn K mainGlobals "next_go" = some (some (.ref f_next_go)))
    (l_next_go : K.lookup f_next_go = some ⟨oc_next_go, od_next_go, .func (PySem.W.fnOf "next_go" "next_go" (defArgs s_next_go) (defBody s_next_go) (defScope s_next_go) .none kV_next_go dc_next_go pm_next_go an_next_go cd_next_go ct_next_go), sl_next_go⟩)
    (c_next_go : PySem.W.codeIn K cd_next_go "next_go" = true)
    (kp_next_go : PySem.W.keepIn K (.ref f_next_go) = true)
    (a_ahead : PySem.W.nsIn K mainGlobals "ahead" = some (some (.ref f_ahead)))
    (l_ahead : K.lookup f_ahead = some ⟨oc_ahead, od_ahead, .func (PySem.W.fnOf "ahead" "ahead" (defArgs s_ahead) (defBody s_ahead) (defScope s_ahead) .none kV_ahead dc_ahead pm_ahead an_ahead cd_ahead ct_ahead), sl_ahead⟩)
    (c_ahead : PySem.W.codeIn K cd_ahead "ahead" = true)
    (kp_ahead : PySem.W.keepIn K (.ref f_ahead) = true)
    (a_has_hundredths : PySem.W.nsIn K mainGlobals "has_hundredths" = some (some (.ref f_has_hundredths)))
    (l_has_hundredths : K.lookup f_has_hundredths = some ⟨oc_has_hundredths, od_has_hundredths, .func (PySem.W.fnOf "has_hundredths" "has_hundredths" (defArgs s_has_hundredths) (defBody s_has_hundredths) (defScope s_has_hundredths) .none kV_has_hundredths dc_has_hundredths pm_has_hundredths an_has_hundredths cd_has_hundredths ct_has_hundredths), sl_has_hundredths⟩)
    (c_has_hundredths : PySem.W.codeIn K cd_has_hundredths "has_hundredths" = true)
    (kp_has_hundredths : PySem.W.keepIn K (.ref f_has_hundredths) = true)
    (a_full : PySem.W.nsIn K mainGlobals "full" = some (some (.ref f_full)))
    (l_full : K.lookup f_full = some ⟨oc_full, od_full, .func (PySem.W.fnOf "full" "full" (defArgs s_full) (defBody s_full) (defScope s_full) .none kV_full dc_full pm_full an_full cd_full ct_full), sl_full⟩)
    (c_full : PySem.W.codeIn K cd_full "full" = true)
    (kp_full : PySem.W.keepIn K (.ref f_full) = true)
    (a_flows : PySem.W.nsIn K mainGlobals "flows" = some (some (.ref f_flows)))
    (l_flows : K.lookup f_flows = some ⟨oc_flows, od_flows, .func (PySem.W.fnOf "flows" "flows" (defArgs s_flows) (defBody s_flows) (defScope s_flows) .none kV_flows dc_flows pm_flows an_flows cd_flows ct_flows), sl_flows⟩)
    (c_flows : PySem.W.codeIn K cd_flows "flows" = true)
    (kp_flows : PySem.W.keepIn K (.ref f_flows) = true)
    (a_is_outlook : PySem.W.nsIn K mainGlobals "is_outlook" = some (some (.ref f_is_outlook)))
    (l_is_outlook : K.lookup f_is_outlook = some ⟨oc_is_outlook, od_is_outlook, .func (PySem.W.fnOf "is_outlook" "is_outlook" (defArgs s_is_outlook) (defBody s_is_outlook) (defScope s_is_outlook) .none kV_is_outlook dc_is_outlook pm_is_outlook an_is_outlook cd_is_outlook ct_is_outlook), sl_is_outlook⟩)
    (c_is_outlook : PySem.W.codeIn K cd_is_outlook "is_outlook" = true)
    (kp_is_outlook : PySem.W.keepIn K (.ref f_is_outlook) = true)
    (a_look_ahead : PySem.W.nsIn K mainGlobals "look_ahead" = some (some (.ref f_look_ahead)))
    (l_look_ahead : K.lookup f_look_ahead = some ⟨oc_look_ahead, od_look_ahead, .func (PySem.W.fnOf "look_ahead" "look_ahead" (defArgs s_look_ahead) (defBody s_look_ahead) (defScope s_look_ahead) .none kV_look_ahead dc_look_ahead pm_look_ahead an_look_ahead cd_look_ahead ct_look_ahead), sl_look_ahead⟩)
    (c_look_ahead : PySem.W.codeIn K cd_look_ahead "look_ahead" = true)
    (kp_look_ahead : PySem.W.keepIn K (.ref f_look_ahead) = true)
    (a_may_start : PySem.W.nsIn K mainGlobals "may_start" = some (some (.ref f_may_start)))
    (l_may_start : K.lookup f_may_start = some ⟨oc_may_start, od_may_start, .func (PySem.W.fnOf "may_start" "may_start" (defArgs s_may_start) (defBody s_may_start) (defScope s_may_start) .none kV_may_start dc_may_start pm_may_start an_may_start cd_may_start ct_may_start), sl_may_start⟩)
    (c_may_start : PySem.W.codeIn K cd_may_start "may_start" = true)
    (kp_may_start : PySem.W.keepIn K (.ref f_may_start) = true)
    (a_started : PySem.W.nsIn K mainGlobals "started" = some (some (.ref f_started)))
    (l_started : K.lookup f_started = some ⟨oc_started, od_started, .func (PySem.W.fnOf "started" "started" (defArgs s_started) (defBody s_started) (defScope s_started) .none kV_started dc_started pm_started an_started cd_started ct_started), sl_started⟩)
    (c_started : PySem.W.codeIn K cd_started "started" = true)
    (kp_started : PySem.W.keepIn K (.ref f_started) = true)
    (a_answer_of : PySem.W.nsIn K mainGlobals "answer_of" = some (some (.ref f_answer_of)))
    (l_answer_of : K.lookup f_answer_of = some ⟨oc_answer_of, od_answer_of, .func (PySem.W.fnOf "answer_of" "answer_of" (defArgs s_answer_of) (defBody s_answer_of) (defScope s_answer_of) .none kV_answer_of dc_answer_of pm_answer_of an_answer_of cd_answer_of ct_answer_of), sl_answer_of⟩)
    (c_answer_of : PySem.W.codeIn K cd_answer_of "answer_of" = true)
    (kp_answer_of : PySem.W.keepIn K (.ref f_answer_of) = true)
    (a_answers : PySem.W.nsIn K mainGlobals "answers" = some (some (.ref f_answers)))
    (l_answers : K.lookup f_answers = some ⟨oc_answers, od_answers, .func (PySem.W.fnOf "answers" "answers" (defArgs s_answers) (defBody s_answers) (defScope s_answers) .none kV_answers dc_answers pm_answers an_answers cd_answers ct_answers), sl_answers⟩)
    (c_answers : PySem.W.codeIn K cd_answers "answers" = true)
    (kp_answers : PySem.W.keepIn K (.ref f_answers) = true)
    : ∃ a : Ad, a.f_answers = f_answers ∧ a.d_answers = PySem.W.fnOf "answers" "answers" (defArgs s_answers) (defBody s_answers) (defScope s_answers) .none kV_answers dc_answers pm_answers an_answers cd_answers ct_answers ∧ Tx K mg a := by
  have F_Sizes_init := fun_mk (st := s_Sizes_init) l_Sizes_init c_Sizes_init kp_Sizes_init
  have b_Sizes_init := F_Sizes_init.binds (ps := ["self", "fresh", "makes", "grey", "grey_go", "black", "black_go"]) fun _ _ _ _ _ _ us hl => match us, hl with | [_, _, _, _, _, _, _], _ => rfl
  have F_State_init := fun_mk (st := s_State_init) l_State_init c_State_init kp_State_init
  have b_State_init := F_State_init.binds (ps := ["self", "sizes"]) fun _ _ _ _ _ _ us hl => match us, hl with | [_, _], _ => rfl
  have F_copy_of := fun_mk (st := s_copy_of) l_copy_of c_copy_of kp_copy_of
  have b_copy_of := F_copy_of.binds (ps := ["state"]) fun _ _ _ _ _ _ us hl => match us, hl with | [_], _ => rfl
  have F_switches := fun_mk (st := s_switches) l_switches c_switches kp_switches
  have b_switches := F_switches.binds (ps := ["making", "grey", "black"]) fun _ _ _ _ _ _ us hl => match us, hl with | [_, _, _], _ => rfl
  have F_what_is_set := fun_mk (st := s_what_is_set) l_what_is_set c_what_is_set kp_what_is_set
  have b_what_is_set := F_what_is_set.binds (ps := ["state"]) fun _ _ _ _ _ _ us hl => match us, hl with | [_], _ => rfl
  have F_wanted := fun_mk (st := s_wanted) l_wanted c_wanted kp_wanted
  have b_wanted := F_wanted.binds (ps := ["state"]) fun _ _ _ _ _ _ us hl => match us, hl with | [_], _ => rfl
  have F_Ship_init := fun_mk (st := s_Ship_init) l_Ship_init c_Ship_init kp_Ship_init
  have b_Ship_init := F_Ship_init.binds (ps := ["self", "sizes"]) fun _ _ _ _ _ _ us hl => match us, hl with | [_, _], _ => rfl
  have F_Ship_keep := fun_mk (st := s_Ship_keep) l_Ship_keep c_Ship_keep kp_Ship_keep
  have b_Ship_keep := F_Ship_keep.binds (ps := ["self", "changed"]) fun _ _ _ _ _ _ us hl => match us, hl with | [_, _], _ => rfl
  have F_Ship_take_back := fun_mk (st := s_Ship_take_back) l_Ship_take_back c_Ship_take_back kp_Ship_take_back
  have b_Ship_take_back := F_Ship_take_back.binds (ps := ["self"]) fun _ _ _ _ _ _ us hl => match us, hl with | [_], _ => rfl
  have F_Ship_do_again := fun_mk (st := s_Ship_do_again) l_Ship_do_again c_Ship_do_again kp_Ship_do_again
  have b_Ship_do_again := F_Ship_do_again.binds (ps := ["self"]) fun _ _ _ _ _ _ us hl => match us, hl with | [_], _ => rfl
  have F_Leg_init := fun_mk (st := s_Leg_init) l_Leg_init c_Leg_init kp_Leg_init
  have b_Leg_init := F_Leg_init.binds (ps := ["self", "end", "miles", "knots"]) fun _ _ _ _ _ _ us hl => match us, hl with | [_, _, _, _], _ => rfl
  have F_way_end := fun_mk (st := s_way_end) l_way_end c_way_end kp_way_end
  have b_way_end := F_way_end.binds (ps := ["legs"]) fun _ _ _ _ _ _ us hl => match us, hl with | [_], _ => rfl
  have F_leg_in := fun_mk (st := s_leg_in) l_leg_in c_leg_in kp_leg_in
  have b_leg_in := F_leg_in.binds (ps := ["legs", "hour"]) fun _ _ _ _ _ _ us hl => match us, hl with | [_, _], _ => rfl
  have F_in_port := fun_mk (st := s_in_port) l_in_port c_in_port kp_in_port
  have b_in_port := F_in_port.binds (ps := ["leg"]) fun _ _ _ _ _ _ us hl => match us, hl with | [_], _ => rfl
  have F_may_make := fun_mk (st := s_may_make) l_may_make c_may_make kp_may_make
  have b_may_make := F_may_make.binds (ps := ["leg"]) fun _ _ _ _ _ _ us hl => match us, hl with | [_], _ => rfl
  have F_may_let_grey := fun_mk (st := s_may_let_grey) l_may_let_grey c_may_let_grey kp_may_let_grey
  have b_may_let_grey := F_may_let_grey.binds (ps := ["leg"]) fun _ _ _ _ _ _ us hl => match us, hl with | [_], _ => rfl
  have F_may_let_black := fun_mk (st := s_may_let_black) l_may_let_black c_may_let_black kp_may_let_black
  have b_may_let_black := F_may_let_black.binds (ps := ["leg"]) fun _ _ _ _ _ _ us hl => match us, hl with | [_], _ => rfl
  have F_grey_let_go := fun_mk (st := s_grey_let_go) l_grey_let_go c_grey_let_go kp_grey_let_go
  have b_grey_let_go := F_grey_let_go.binds (ps := ["state", "leg"]) fun _ _ _ _ _ _ us hl => match us, hl with | [_, _], _ => rfl
  have F_black_let_go := fun_mk (st := s_black_let_go) l_black_let_go c_black_let_go kp_black_let_go
  have b_black_let_go := F_black_let_go.binds (ps := ["state", "leg"]) fun _ _ _ _ _ _ us hl => match us, hl with | [_, _], _ => rfl
  have F_water_made := fun_mk (st := s_water_made) l_water_made c_water_made kp_water_made
  have b_water_made := F_water_made.binds (ps := ["state", "leg"]) fun _ _ _ _ _ _ us hl => match us, hl with | [_, _], _ => rfl
  have F_grey_part := fun_mk (st := s_grey_part) l_grey_part c_grey_part kp_grey_part
  have b_grey_part := F_grey_part.binds (ps := ["used"]) fun _ _ _ _ _ _ us hl => match us, hl with | [_], _ => rfl
  have F_water_used := fun_mk (st := s_water_used) l_water_used c_water_used kp_water_used
  have b_water_used := F_water_used.binds (ps := ["state"]) fun _ _ _ _ _ _ us hl => match us, hl with | [_], _ => rfl
  have F_let_go := fun_mk (st := s_let_go) l_let_go c_let_go kp_let_go
  have b_let_go := F_let_go.binds (ps := ["state", "leg"]) fun _ _ _ _ _ _ us hl => match us, hl with | [_, _], _ => rfl
  have F_make_water := fun_mk (st := s_make_water) l_make_water c_make_water kp_make_water
  have b_make_water := F_make_water.binds (ps := ["state", "leg"]) fun _ _ _ _ _ _ us hl => match us, hl with | [_, _], _ => rfl
  have F_use_water := fun_mk (st := s_use_water) l_use_water c_use_water kp_use_water
  have b_use_water := F_use_water.binds (ps := ["state"]) fun _ _ _ _ _ _ us hl => match us, hl with | [_], _ => rfl
  have F_pass_hour := fun_mk (st := s_pass_hour) l_pass_hour c_pass_hour kp_pass_hour
  have b_pass_hour := F_pass_hour.binds (ps := ["state"]) fun _ _ _ _ _ _ us hl => match us, hl with | [_], _ => rfl
  have F_pass_hours := fun_mk (st := s_pass_hours) l_pass_hours c_pass_hours kp_pass_hours
  have b_pass_hours := F_pass_hours.binds (ps := ["state", "n"]) fun _ _ _ _ _ _ us hl => match us, hl with | [_, _], _ => rfl
  have F_may_now := fun_mk (st := s_may_now) l_may_now c_may_now kp_may_now
  have b_may_now := F_may_now.binds (ps := ["state"]) fun _ _ _ _ _ _ us hl => match us, hl with | [_], _ => rfl
  have F_room := fun_mk (st := s_room) l_room c_room kp_room
  have b_room := F_room.binds (ps := ["state"]) fun _ _ _ _ _ _ us hl => match us, hl with | [_], _ => rfl
  have F_wants := fun_mk (st := s_wants) l_wants c_wants kp_wants
  have b_wants := F_wants.binds (ps := ["state"]) fun _ _ _ _ _ _ us hl => match us, hl with | [_], _ => rfl
  have F_where := fun_mk (st := s_where) l_where c_where kp_where
  have b_where := F_where.binds (ps := ["state", "t"]) fun _ _ _ _ _ _ us hl => match us, hl with | [_, _], _ => rfl
  have F_look := fun_mk (st := s_look) l_look c_look kp_look
  have b_look := F_look.binds (ps := ["state", "k"]) fun _ _ _ _ _ _ us hl => match us, hl with | [_, _], _ => rfl
  have F_end := fun_mk (st := s_end) l_end c_end kp_end
  have b_end := F_end.binds (ps := ["state"]) fun _ _ _ _ _ _ us hl => match us, hl with | [_], _ => rfl
  have F_tanks := fun_mk (st := s_tanks) l_tanks c_tanks kp_tanks
  have b_tanks := F_tanks.binds (ps := ["state"]) fun _ _ _ _ _ _ us hl => match us, hl with | [_], _ => rfl
  have F_sums := fun_mk (st := s_sums) l_sums c_sums kp_sums
  have b_sums := F_sums.binds (ps := ["state"]) fun _ _ _ _ _ _ us hl => match us, hl with | [_], _ => rfl
  have F_ask := fun_mk (st := s_ask) l_ask c_ask kp_ask
  have b_ask := F_ask.binds (ps := ["state", "number", "numbers"]) fun _ _ _ _ _ _ us hl => match us, hl with | [_, _, _], _ => rfl
  have F_add_leg := fun_mk (st := s_add_leg) l_add_leg c_add_leg kp_add_leg
  have b_add_leg := F_add_leg.binds (ps := ["state", "hours", "miles", "knots"]) fun _ _ _ _ _ _ us hl => match us, hl with | [_, _, _, _], _ => rfl
  have F_set_persons := fun_mk (st := s_set_persons) l_set_persons c_set_persons kp_set_persons
  have b_set_persons := F_set_persons.binds (ps := ["state", "n", "uses"]) fun _ _ _ _ _ _ us hl => match us, hl with | [_, _, _], _ => rfl
  have F_set_switches := fun_mk (st := s_set_switches) l_set_switches c_set_switches kp_set_switches
  have b_set_switches := F_set_switches.binds (ps := ["state", "making", "grey", "black"]) fun _ _ _ _ _ _ us hl => match us, hl with | [_, _, _, _], _ => rfl
  have F_bunker := fun_mk (st := s_bunker) l_bunker c_bunker kp_bunker
  have b_bunker := F_bunker.binds (ps := ["state", "n"]) fun _ _ _ _ _ _ us hl => match us, hl with | [_, _], _ => rfl
  have F_give_ashore := fun_mk (st := s_give_ashore) l_give_ashore c_give_ashore kp_give_ashore
  have b_give_ashore := F_give_ashore.binds (ps := ["state", "grey", "black"]) fun _ _ _ _ _ _ us hl => match us, hl with | [_, _, _], _ => rfl
  have F_let_hours_go_by := fun_mk (st := s_let_hours_go_by) l_let_hours_go_by c_let_hours_go_by kp_let_hours_go_by
  have b_let_hours_go_by := F_let_hours_go_by.binds (ps := ["state", "n"]) fun _ _ _ _ _ _ us hl => match us, hl with | [_, _], _ => rfl
  have F_is_change := fun_mk (st := s_is_change) l_is_change c_is_change kp_is_change
  have b_is_change := F_is_change.binds (ps := ["number"]) fun _ _ _ _ _ _ us hl => match us, hl with | [_], _ => rfl
  have F_change_state := fun_mk (st := s_change_state) l_change_state c_change_state kp_change_state
  have b_change_state := F_change_state.binds (ps := ["state", "number", "numbers"]) fun _ _ _ _ _ _ us hl => match us, hl with | [_, _, _], _ => rfl
  have F_make_change := fun_mk (st := s_make_change) l_make_change c_make_change kp_make_change
  have b_make_change := F_make_change.binds (ps := ["ship", "number", "numbers"]) fun _ _ _ _ _ _ us hl => match us, hl with | [_, _, _], _ => rfl
  have F_back := fun_mk (st := s_back) l_back c_back kp_back
  have b_back := F_back.binds (ps := ["ship"]) fun _ _ _ _ _ _ us hl => match us, hl with | [_], _ => rfl
  have F_again := fun_mk (st := s_again) l_again c_again kp_again
  have b_again := F_again.binds (ps := ["ship"]) fun _ _ _ _ _ _ us hl => match us, hl with | [_], _ => rfl
  have F_tell_state := fun_mk (st := s_tell_state) l_tell_state c_tell_state kp_tell_state
  have b_tell_state := F_tell_state.binds (ps := ["ship"]) fun _ _ _ _ _ _ us hl => match us, hl with | [_], _ => rfl
  have F_is_history := fun_mk (st := s_is_history) l_is_history c_is_history kp_is_history
  have b_is_history := F_is_history.binds (ps := ["number"]) fun _ _ _ _ _ _ us hl => match us, hl with | [_], _ => rfl
  have F_do_history := fun_mk (st := s_do_history) l_do_history c_do_history kp_do_history
  have b_do_history := F_do_history.binds (ps := ["ship", "number"]) fun _ _ _ _ _ _ us hl => match us, hl with | [_, _], _ => rfl
  have F_lasts := fun_mk (st := s_lasts) l_lasts c_lasts kp_lasts
  have b_lasts := F_lasts.binds (ps := ["state"]) fun _ _ _ _ _ _ us hl => match us, hl with | [_], _ => rfl
  have F_first_hour := fun_mk (st := s_first_hour) l_first_hour c_first_hour kp_first_hour
  have b_first_hour := F_first_hour.binds (ps := ["state", "may"]) fun _ _ _ _ _ _ us hl => match us, hl with | [_, _], _ => rfl
  have F_next_go := fun_mk (st := s_next_go) l_next_go c_next_go kp_next_go
  have b_next_go := F_next_go.binds (ps := ["state"]) fun _ _ _ _ _ _ us hl => match us, hl with | [_], _ => rfl
  have F_ahead := fun_mk (st := s_ahead) l_ahead c_ahead kp_ahead
  have b_ahead := F_ahead.binds (ps := ["state", "n"]) fun _ _ _ _ _ _ us hl => match us, hl with | [_, _], _ => rfl
  have F_has_hundredths := fun_mk (st := s_has_hundredths) l_has_hundredths c_has_hundredths kp_has_hundredths
  have b_has_hundredths := F_has_hundredths.binds (ps := ["state", "h"]) fun _ _ _ _ _ _ us hl => match us, hl with | [_, _], _ => rfl
  have F_full := fun_mk (st := s_full) l_full c_full kp_full
  have b_full := F_full.binds (ps := ["state", "h"]) fun _ _ _ _ _ _ us hl => match us, hl with | [_, _], _ => rfl
  have F_flows := fun_mk (st := s_flows) l_flows c_flows kp_flows
  have b_flows := F_flows.binds (ps := ["state"]) fun _ _ _ _ _ _ us hl => match us, hl with | [_], _ => rfl
  have F_is_outlook := fun_mk (st := s_is_outlook) l_is_outlook c_is_outlook kp_is_outlook
  have b_is_outlook := F_is_outlook.binds (ps := ["number"]) fun _ _ _ _ _ _ us hl => match us, hl with | [_], _ => rfl
  have F_look_ahead := fun_mk (st := s_look_ahead) l_look_ahead c_look_ahead kp_look_ahead
  have b_look_ahead := F_look_ahead.binds (ps := ["state", "number", "numbers"]) fun _ _ _ _ _ _ us hl => match us, hl with | [_, _, _], _ => rfl
  have F_may_start := fun_mk (st := s_may_start) l_may_start c_may_start kp_may_start
  have b_may_start := F_may_start.binds (ps := ["numbers"]) fun _ _ _ _ _ _ us hl => match us, hl with | [_], _ => rfl
  have F_started := fun_mk (st := s_started) l_started c_started kp_started
  have b_started := F_started.binds (ps := ["numbers"]) fun _ _ _ _ _ _ us hl => match us, hl with | [_], _ => rfl
  have F_answer_of := fun_mk (st := s_answer_of) l_answer_of c_answer_of kp_answer_of
  have b_answer_of := F_answer_of.binds (ps := ["ship", "number", "numbers"]) fun _ _ _ _ _ _ us hl => match us, hl with | [_, _, _], _ => rfl
  have F_answers := fun_mk (st := s_answers) l_answers c_answers kp_answers
  have b_answers := F_answers.binds (ps := ["calls"]) fun _ _ _ _ _ _ us hl => match us, hl with | [_], _ => rfl
  refine ⟨⟨C_Sizes, C_State, C_Ship, C_Leg, f_Sizes_init, (PySem.W.fnOf "__init__" "Sizes.__init__" (defArgs s_Sizes_init) (defBody s_Sizes_init) (defScope s_Sizes_init) .none kV_Sizes_init dc_Sizes_init pm_Sizes_init an_Sizes_init cd_Sizes_init ct_Sizes_init), f_State_init, (PySem.W.fnOf "__init__" "State.__init__" (defArgs s_State_init) (defBody s_State_init) (defScope s_State_init) .none kV_State_init dc_State_init pm_State_init an_State_init cd_State_init ct_State_init), f_copy_of, (PySem.W.fnOf "copy_of" "copy_of" (defArgs s_copy_of) (defBody s_copy_of) (defScope s_copy_of) .none kV_copy_of dc_copy_of pm_copy_of an_copy_of cd_copy_of ct_copy_of), f_switches, (PySem.W.fnOf "switches" "switches" (defArgs s_switches) (defBody s_switches) (defScope s_switches) .none kV_switches dc_switches pm_switches an_switches cd_switches ct_switches), f_what_is_set, (PySem.W.fnOf "what_is_set" "what_is_set" (defArgs s_what_is_set) (defBody s_what_is_set) (defScope s_what_is_set) .none kV_what_is_set dc_what_is_set pm_what_is_set an_what_is_set cd_what_is_set ct_what_is_set), f_wanted, (PySem.W.fnOf "wanted" "wanted" (defArgs s_wanted) (defBody s_wanted) (defScope s_wanted) .none kV_wanted dc_wanted pm_wanted an_wanted cd_wanted ct_wanted), f_Ship_init, (PySem.W.fnOf "__init__" "Ship.__init__" (defArgs s_Ship_init) (defBody s_Ship_init) (defScope s_Ship_init) .none kV_Ship_init dc_Ship_init pm_Ship_init an_Ship_init cd_Ship_init ct_Ship_init), f_Ship_keep, (PySem.W.fnOf "keep" "Ship.keep" (defArgs s_Ship_keep) (defBody s_Ship_keep) (defScope s_Ship_keep) .none kV_Ship_keep dc_Ship_keep pm_Ship_keep an_Ship_keep cd_Ship_keep ct_Ship_keep), f_Ship_take_back, (PySem.W.fnOf "take_back" "Ship.take_back" (defArgs s_Ship_take_back) (defBody s_Ship_take_back) (defScope s_Ship_take_back) .none kV_Ship_take_back dc_Ship_take_back pm_Ship_take_back an_Ship_take_back cd_Ship_take_back ct_Ship_take_back), f_Ship_do_again, (PySem.W.fnOf "do_again" "Ship.do_again" (defArgs s_Ship_do_again) (defBody s_Ship_do_again) (defScope s_Ship_do_again) .none kV_Ship_do_again dc_Ship_do_again pm_Ship_do_again an_Ship_do_again cd_Ship_do_again ct_Ship_do_again), f_Leg_init, (PySem.W.fnOf "__init__" "Leg.__init__" (defArgs s_Leg_init) (defBody s_Leg_init) (defScope s_Leg_init) .none kV_Leg_init dc_Leg_init pm_Leg_init an_Leg_init cd_Leg_init ct_Leg_init), f_way_end, (PySem.W.fnOf "way_end" "way_end" (defArgs s_way_end) (defBody s_way_end) (defScope s_way_end) .none kV_way_end dc_way_end pm_way_end an_way_end cd_way_end ct_way_end), f_leg_in, (PySem.W.fnOf "leg_in" "leg_in" (defArgs s_leg_in) (defBody s_leg_in) (defScope s_leg_in) .none kV_leg_in dc_leg_in pm_leg_in an_leg_in cd_leg_in ct_leg_in), f_in_port, (PySem.W.fnOf "in_port" "in_port" (defArgs s_in_port) (defBody s_in_port) (defScope s_in_port) .none kV_in_port dc_in_port pm_in_port an_in_port cd_in_port ct_in_port), f_may_make, (PySem.W.fnOf "may_make" "may_make" (defArgs s_may_make) (defBody s_may_make) (defScope s_may_make) .none kV_may_make dc_may_make pm_may_make an_may_make cd_may_make ct_may_make), f_may_let_grey, (PySem.W.fnOf "may_let_grey" "may_let_grey" (defArgs s_may_let_grey) (defBody s_may_let_grey) (defScope s_may_let_grey) .none kV_may_let_grey dc_may_let_grey pm_may_let_grey an_may_let_grey cd_may_let_grey ct_may_let_grey), f_may_let_black, (PySem.W.fnOf "may_let_black" "may_let_black" (defArgs s_may_let_black) (defBody s_may_let_black) (defScope s_may_let_black) .none kV_may_let_black dc_may_let_black pm_may_let_black an_may_let_black cd_may_let_black ct_may_let_black), f_grey_let_go, (PySem.W.fnOf "grey_let_go" "grey_let_go" (defArgs s_grey_let_go) (defBody s_grey_let_go) (defScope s_grey_let_go) .none kV_grey_let_go dc_grey_let_go pm_grey_let_go an_grey_let_go cd_grey_let_go ct_grey_let_go), f_black_let_go, (PySem.W.fnOf "black_let_go" "black_let_go" (defArgs s_black_let_go) (defBody s_black_let_go) (defScope s_black_let_go) .none kV_black_let_go dc_black_let_go pm_black_let_go an_black_let_go cd_black_let_go ct_black_let_go), f_water_made, (PySem.W.fnOf "water_made" "water_made" (defArgs s_water_made) (defBody s_water_made) (defScope s_water_made) .none kV_water_made dc_water_made pm_water_made an_water_made cd_water_made ct_water_made), f_grey_part, (PySem.W.fnOf "grey_part" "grey_part" (defArgs s_grey_part) (defBody s_grey_part) (defScope s_grey_part) .none kV_grey_part dc_grey_part pm_grey_part an_grey_part cd_grey_part ct_grey_part), f_water_used, (PySem.W.fnOf "water_used" "water_used" (defArgs s_water_used) (defBody s_water_used) (defScope s_water_used) .none kV_water_used dc_water_used pm_water_used an_water_used cd_water_used ct_water_used), f_let_go, (PySem.W.fnOf "let_go" "let_go" (defArgs s_let_go) (defBody s_let_go) (defScope s_let_go) .none kV_let_go dc_let_go pm_let_go an_let_go cd_let_go ct_let_go), f_make_water, (PySem.W.fnOf "make_water" "make_water" (defArgs s_make_water) (defBody s_make_water) (defScope s_make_water) .none kV_make_water dc_make_water pm_make_water an_make_water cd_make_water ct_make_water), f_use_water, (PySem.W.fnOf "use_water" "use_water" (defArgs s_use_water) (defBody s_use_water) (defScope s_use_water) .none kV_use_water dc_use_water pm_use_water an_use_water cd_use_water ct_use_water), f_pass_hour, (PySem.W.fnOf "pass_hour" "pass_hour" (defArgs s_pass_hour) (defBody s_pass_hour) (defScope s_pass_hour) .none kV_pass_hour dc_pass_hour pm_pass_hour an_pass_hour cd_pass_hour ct_pass_hour), f_pass_hours, (PySem.W.fnOf "pass_hours" "pass_hours" (defArgs s_pass_hours) (defBody s_pass_hours) (defScope s_pass_hours) .none kV_pass_hours dc_pass_hours pm_pass_hours an_pass_hours cd_pass_hours ct_pass_hours), f_may_now, (PySem.W.fnOf "may_now" "may_now" (defArgs s_may_now) (defBody s_may_now) (defScope s_may_now) .none kV_may_now dc_may_now pm_may_now an_may_now cd_may_now ct_may_now), f_room, (PySem.W.fnOf "room" "room" (defArgs s_room) (defBody s_room) (defScope s_room) .none kV_room dc_room pm_room an_room cd_room ct_room), f_wants, (PySem.W.fnOf "wants" "wants" (defArgs s_wants) (defBody s_wants) (defScope s_wants) .none kV_wants dc_wants pm_wants an_wants cd_wants ct_wants), f_where, (PySem.W.fnOf "where" "where" (defArgs s_where) (defBody s_where) (defScope s_where) .none kV_where dc_where pm_where an_where cd_where ct_where), f_look, (PySem.W.fnOf "look" "look" (defArgs s_look) (defBody s_look) (defScope s_look) .none kV_look dc_look pm_look an_look cd_look ct_look), f_end, (PySem.W.fnOf "end" "end" (defArgs s_end) (defBody s_end) (defScope s_end) .none kV_end dc_end pm_end an_end cd_end ct_end), f_tanks, (PySem.W.fnOf "tanks" "tanks" (defArgs s_tanks) (defBody s_tanks) (defScope s_tanks) .none kV_tanks dc_tanks pm_tanks an_tanks cd_tanks ct_tanks), f_sums, (PySem.W.fnOf "sums" "sums" (defArgs s_sums) (defBody s_sums) (defScope s_sums) .none kV_sums dc_sums pm_sums an_sums cd_sums ct_sums), f_ask, (PySem.W.fnOf "ask" "ask" (defArgs s_ask) (defBody s_ask) (defScope s_ask) .none kV_ask dc_ask pm_ask an_ask cd_ask ct_ask), f_add_leg, (PySem.W.fnOf "add_leg" "add_leg" (defArgs s_add_leg) (defBody s_add_leg) (defScope s_add_leg) .none kV_add_leg dc_add_leg pm_add_leg an_add_leg cd_add_leg ct_add_leg), f_set_persons, (PySem.W.fnOf "set_persons" "set_persons" (defArgs s_set_persons) (defBody s_set_persons) (defScope s_set_persons) .none kV_set_persons dc_set_persons pm_set_persons an_set_persons cd_set_persons ct_set_persons), f_set_switches, (PySem.W.fnOf "set_switches" "set_switches" (defArgs s_set_switches) (defBody s_set_switches) (defScope s_set_switches) .none kV_set_switches dc_set_switches pm_set_switches an_set_switches cd_set_switches ct_set_switches), f_bunker, (PySem.W.fnOf "bunker" "bunker" (defArgs s_bunker) (defBody s_bunker) (defScope s_bunker) .none kV_bunker dc_bunker pm_bunker an_bunker cd_bunker ct_bunker), f_give_ashore, (PySem.W.fnOf "give_ashore" "give_ashore" (defArgs s_give_ashore) (defBody s_give_ashore) (defScope s_give_ashore) .none kV_give_ashore dc_give_ashore pm_give_ashore an_give_ashore cd_give_ashore ct_give_ashore), f_let_hours_go_by, (PySem.W.fnOf "let_hours_go_by" "let_hours_go_by" (defArgs s_let_hours_go_by) (defBody s_let_hours_go_by) (defScope s_let_hours_go_by) .none kV_let_hours_go_by dc_let_hours_go_by pm_let_hours_go_by an_let_hours_go_by cd_let_hours_go_by ct_let_hours_go_by), f_is_change, (PySem.W.fnOf "is_change" "is_change" (defArgs s_is_change) (defBody s_is_change) (defScope s_is_change) .none kV_is_change dc_is_change pm_is_change an_is_change cd_is_change ct_is_change), f_change_state, (PySem.W.fnOf "change_state" "change_state" (defArgs s_change_state) (defBody s_change_state) (defScope s_change_state) .none kV_change_state dc_change_state pm_change_state an_change_state cd_change_state ct_change_state), f_make_change, (PySem.W.fnOf "make_change" "make_change" (defArgs s_make_change) (defBody s_make_change) (defScope s_make_change) .none kV_make_change dc_make_change pm_make_change an_make_change cd_make_change ct_make_change), f_back, (PySem.W.fnOf "back" "back" (defArgs s_back) (defBody s_back) (defScope s_back) .none kV_back dc_back pm_back an_back cd_back ct_back), f_again, (PySem.W.fnOf "again" "again" (defArgs s_again) (defBody s_again) (defScope s_again) .none kV_again dc_again pm_again an_again cd_again ct_again), f_tell_state, (PySem.W.fnOf "tell_state" "tell_state" (defArgs s_tell_state) (defBody s_tell_state) (defScope s_tell_state) .none kV_tell_state dc_tell_state pm_tell_state an_tell_state cd_tell_state ct_tell_state), f_is_history, (PySem.W.fnOf "is_history" "is_history" (defArgs s_is_history) (defBody s_is_history) (defScope s_is_history) .none kV_is_history dc_is_history pm_is_history an_is_history cd_is_history ct_is_history), f_do_history, (PySem.W.fnOf "do_history" "do_history" (defArgs s_do_history) (defBody s_do_history) (defScope s_do_history) .none kV_do_history dc_do_history pm_do_history an_do_history cd_do_history ct_do_history), f_lasts, (PySem.W.fnOf "lasts" "lasts" (defArgs s_lasts) (defBody s_lasts) (defScope s_lasts) .none kV_lasts dc_lasts pm_lasts an_lasts cd_lasts ct_lasts), f_first_hour, (PySem.W.fnOf "first_hour" "first_hour" (defArgs s_first_hour) (defBody s_first_hour) (defScope s_first_hour) .none kV_first_hour dc_first_hour pm_first_hour an_first_hour cd_first_hour ct_first_hour), f_next_go, (PySem.W.fnOf "next_go" "next_go" (defArgs s_next_go) (defBody s_next_go) (defScope s_next_go) .none kV_next_go dc_next_go pm_next_go an_next_go cd_next_go ct_next_go), f_ahead, (PySem.W.fnOf "ahead" "ahead" (defArgs s_ahead) (defBody s_ahead) (defScope s_ahead) .none kV_ahead dc_ahead pm_ahead an_ahead cd_ahead ct_ahead), f_has_hundredths, (PySem.W.fnOf "has_hundredths" "has_hundredths" (defArgs s_has_hundredths) (defBody s_has_hundredths) (defScope s_has_hundredths) .none kV_has_hundredths dc_has_hundredths pm_has_hundredths an_has_hundredths cd_has_hundredths ct_has_hundredths), f_full, (PySem.W.fnOf "full" "full" (defArgs s_full) (defBody s_full) (defScope s_full) .none kV_full dc_full pm_full an_full cd_full ct_full), f_flows, (PySem.W.fnOf "flows" "flows" (defArgs s_flows) (defBody s_flows) (defScope s_flows) .none kV_flows dc_flows pm_flows an_flows cd_flows ct_flows), f_is_outlook, (PySem.W.fnOf "is_outlook" "is_outlook" (defArgs s_is_outlook) (defBody s_is_outlook) (defScope s_is_outlook) .none kV_is_outlook dc_is_outlook pm_is_outlook an_is_outlook cd_is_outlook ct_is_outlook), f_look_ahead, (PySem.W.fnOf "look_ahead" "look_ahead" (defArgs s_look_ahead) (defBody s_look_ahead) (defScope s_look_ahead) .none kV_look_ahead dc_look_ahead pm_look_ahead an_look_ahead cd_look_ahead ct_look_ahead), f_may_start, (PySem.W.fnOf "may_start" "may_start" (defArgs s_may_start) (defBody s_may_start) (defScope s_may_start) .none kV_may_start dc_may_start pm_may_start an_may_start cd_may_start ct_may_start), f_started, (PySem.W.fnOf "started" "started" (defArgs s_started) (defBody s_started) (defScope s_started) .none kV_started dc_started pm_started an_started cd_started ct_started), f_answer_of, (PySem.W.fnOf "answer_of" "answer_of" (defArgs s_answer_of) (defBody s_answer_of) (defScope s_answer_of) .none kV_answer_of dc_answer_of pm_answer_of an_answer_of cd_answer_of ct_answer_of), f_answers, (PySem.W.fnOf "answers" "answers" (defArgs s_answers) (defBody s_answers) (defScope s_answers) .none kV_answers dc_answers pm_answers an_answers cd_answers ct_answers), t_START, t_LEG, t_PERSONS, t_SET, t_BUNKER, t_ASHORE, t_HOURS, t_LASTS, t_NEXT_GO, t_MAY, t_AHEAD, t_ROOM, t_WANTS, t_WHERE, t_LOOK, t_END, t_FULL, t_TANKS, t_FLOWS, t_BACK, t_AGAIN, t_STATE, t_NONE_THERE, t_TOO_LITTLE, t_NOT_HERE, t_SO_ALREADY, t_WRONG_NUMBER, t_NO_MORE, t_NOT_SOON, t_NO_ROOM, t_TOO_LATE, t_MOST_KEPT, t_MOST_LEGS, t_MOST_LEG_HOURS, t_MOST_MILES, t_MOST_KNOTS, t_LAST_HOUR, t_MAKING_MILES, t_GREY_MILES, t_GREY_KNOTS, t_BLACK_MILES, t_BLACK_KNOTS, t_MOST_PERSONS, t_MOST_USES, t_MOST_HOURS_AT_ONCE, t_MOST_TAKEN_IN, t_MOST_HOURS_AHEAD, t_MOST_LITRES, p_WIDTHS⟩, rfl, rfl, ?_⟩
  exact ⟨PySem.W.mg_none_of X G no_len,
    PySem.W.mg_none_of X G no_max,
    PySem.W.mg_none_of X G no_min,
    PySem.W.mg_none_of X G no_range,
    PySem.W.mg_of X G k_START,
    PySem.W.mg_of X G k_LEG,
    PySem.W.mg_of X G k_PERSONS,
    PySem.W.mg_of X G k_SET,
    PySem.W.mg_of X G k_BUNKER,
    PySem.W.mg_of X G k_ASHORE,
    PySem.W.mg_of X G k_HOURS,
    PySem.W.mg_of X G k_LASTS,
    PySem.W.mg_of X G k_NEXT_GO,
    PySem.W.mg_of X G k_MAY,
    PySem.W.mg_of X G k_AHEAD,
    PySem.W.mg_of X G k_ROOM,
    PySem.W.mg_of X G k_WANTS,
    PySem.W.mg_of X G k_WHERE,
    PySem.W.mg_of X G k_LOOK,
    PySem.W.mg_of X G k_END,
    PySem.W.mg_of X G k_FULL,
    PySem.W.mg_of X G k_TANKS,
    PySem.W.mg_of X G k_FLOWS,
    PySem.W.mg_of X G k_BACK,
    PySem.W.mg_of X G k_AGAIN,
    PySem.W.mg_of X G k_STATE,
    PySem.W.mg_of X G k_NONE_THERE,
    PySem.W.mg_of X G k_TOO_LITTLE,
    PySem.W.mg_of X G k_NOT_HERE,
    PySem.W.mg_of X G k_SO_ALREADY,
    PySem.W.mg_of X G k_WRONG_NUMBER,
    PySem.W.mg_of X G k_NO_MORE,
    PySem.W.mg_of X G k_NOT_SOON,
    PySem.W.mg_of X G k_NO_ROOM,
    PySem.W.mg_of X G k_TOO_LATE,
    PySem.W.mg_of X G k_MOST_KEPT,
    PySem.W.mg_of X G k_MOST_LEGS,
    PySem.W.mg_of X G k_MOST_LEG_HOURS,
    PySem.W.mg_of X G k_MOST_MILES,
    PySem.W.mg_of X G k_MOST_KNOTS,
    PySem.W.mg_of X G k_LAST_HOUR,
    PySem.W.mg_of X G k_MAKING_MILES,
    PySem.W.mg_of X G k_GREY_MILES,
    PySem.W.mg_of X G k_GREY_KNOTS,
    PySem.W.mg_of X G k_BLACK_MILES,
    PySem.W.mg_of X G k_BLACK_KNOTS,
    PySem.W.mg_of X G k_MOST_PERSONS,
    PySem.W.mg_of X G k_MOST_USES,
    PySem.W.mg_of X G k_MOST_HOURS_AT_ONCE,
    PySem.W.mg_of X G k_MOST_TAKEN_IN,
    PySem.W.mg_of X G k_MOST_HOURS_AHEAD,
    PySem.W.mg_of X G k_MOST_LITRES,
    PySem.W.mg_of X G p1_WIDTHS,
    (fun H => .inr ⟨o_WIDTHS, its_WIDTHS, n_WIDTHS, p2_WIDTHS, p3_WIDTHS, p4_WIDTHS, p5_WIDTHS, p6_WIDTHS⟩),
    ⟨pg_Sizes, hd_Sizes, po_Sizes, sa_Sizes⟩,
    PySem.W.mg_of X G cC_Sizes,
    ⟨mk_Sizes, a_Sizes_init, i_Sizes_init, kc_Sizes⟩,
    n_Sizes_fresh,
    n_Sizes_makes,
    n_Sizes_grey,
    n_Sizes_grey_go,
    n_Sizes_black,
    n_Sizes_black_go,
    ⟨pg_State, hd_State, po_State, sa_State⟩,
    PySem.W.mg_of X G cC_State,
    ⟨mk_State, a_State_init, i_State_init, kc_State⟩,
    n_State_sizes,
    n_State_legs,
    n_State_hour,
    n_State_persons,
    n_State_uses,
    n_State_making,
    n_State_letting_grey,
    n_State_letting_black,
    n_State_fresh,
    n_State_grey,
    n_State_black,
    n_State_taken_in,
    n_State_used,
    n_State_grey_gone,
    n_State_black_gone,
    n_State_ashore,
    n_State_lacked,
    ⟨pg_Ship, hd_Ship, po_Ship, sa_Ship⟩,
    PySem.W.mg_of X G cC_Ship,
    ⟨mk_Ship, a_Ship_init, i_Ship_init, kc_Ship⟩,
    n_Ship_now,
    n_Ship_earlier,
    n_Ship_undone,
    ⟨pg_Leg, hd_Leg, po_Leg, sa_Leg⟩,
    PySem.W.mg_of X G cC_Leg,
    ⟨mk_Leg, a_Leg_init, i_Leg_init, kc_Leg⟩,
    n_Leg_end,
    n_Leg_miles,
    n_Leg_knots,
    F_Sizes_init,
    b_Sizes_init,
    F_State_init,
    b_State_init,
    F_copy_of,
    b_copy_of,
    PySem.W.mg_of X G a_copy_of,
    F_switches,
    b_switches,
    PySem.W.mg_of X G a_switches,
    F_what_is_set,
    b_what_is_set,
    PySem.W.mg_of X G a_what_is_set,
    F_wanted,
    b_wanted,
    PySem.W.mg_of X G a_wanted,
    F_Ship_init,
    b_Ship_init,
    F_Ship_keep,
    b_Ship_keep,
    ⟨a_Ship_keep, i_Ship_keep, kp_Ship_keep⟩,
    F_Ship_take_back,
    b_Ship_take_back,
    ⟨a_Ship_take_back, i_Ship_take_back, kp_Ship_take_back⟩,
    F_Ship_do_again,
    b_Ship_do_again,
    ⟨a_Ship_do_again, i_Ship_do_again, kp_Ship_do_again⟩,
    F_Leg_init,
    b_Leg_init,
    F_way_end,
    b_way_end,
    PySem.W.mg_of X G a_way_end,
    F_leg_in,
    b_leg_in,
    PySem.W.mg_of X G a_leg_in,
    F_in_port,
    b_in_port,
    PySem.W.mg_of X G a_in_port,
    F_may_make,
    b_may_make,
    PySem.W.mg_of X G a_may_make,
    F_may_let_grey,
    b_may_let_grey,
    PySem.W.mg_of X G a_may_let_grey,
    F_may_let_black,
    b_may_let_black,
    PySem.W.mg_of X G a_may_let_black,
    F_grey_let_go,
    b_grey_let_go,
    PySem.W.mg_of X G a_grey_let_go,
    F_black_let_go,
    b_black_let_go,
    PySem.W.mg_of X G a_black_let_go,
    F_water_made,
    b_water_made,
    PySem.W.mg_of X G a_water_made,
    F_grey_part,
    b_grey_part,
    PySem.W.mg_of X G a_grey_part,
    F_water_used,
    b_water_used,
    PySem.W.mg_of X G a_water_used,
    F_let_go,
    b_let_go,
    PySem.W.mg_of X G a_let_go,
    F_make_water,
    b_make_water,
    PySem.W.mg_of X G a_make_water,
    F_use_water,
    b_use_water,
    PySem.W.mg_of X G a_use_water,
    F_pass_hour,
    b_pass_hour,
    PySem.W.mg_of X G a_pass_hour,
    F_pass_hours,
    b_pass_hours,
    PySem.W.mg_of X G a_pass_hours,
    F_may_now,
    b_may_now,
    PySem.W.mg_of X G a_may_now,
    F_room,
    b_room,
    PySem.W.mg_of X G a_room,
    F_wants,
    b_wants,
    PySem.W.mg_of X G a_wants,
    F_where,
    b_where,
    PySem.W.mg_of X G a_where,
    F_look,
    b_look,
    PySem.W.mg_of X G a_look,
    F_end,
    b_end,
    PySem.W.mg_of X G a_end,
    F_tanks,
    b_tanks,
    PySem.W.mg_of X G a_tanks,
    F_sums,
    b_sums,
    PySem.W.mg_of X G a_sums,
    F_ask,
    b_ask,
    PySem.W.mg_of X G a_ask,
    F_add_leg,
    b_add_leg,
    PySem.W.mg_of X G a_add_leg,
    F_set_persons,
    b_set_persons,
    PySem.W.mg_of X G a_set_persons,
    F_set_switches,
    b_set_switches,
    PySem.W.mg_of X G a_set_switches,
    F_bunker,
    b_bunker,
    PySem.W.mg_of X G a_bunker,
    F_give_ashore,
    b_give_ashore,
    PySem.W.mg_of X G a_give_ashore,
    F_let_hours_go_by,
    b_let_hours_go_by,
    PySem.W.mg_of X G a_let_hours_go_by,
    F_is_change,
    b_is_change,
    PySem.W.mg_of X G a_is_change,
    F_change_state,
    b_change_state,
    PySem.W.mg_of X G a_change_state,
    F_make_change,
    b_make_change,
    PySem.W.mg_of X G a_make_change,
    F_back,
    b_back,
    PySem.W.mg_of X G a_back,
    F_again,
    b_again,
    PySem.W.mg_of X G a_again,
    F_tell_state,
    b_tell_state,
    PySem.W.mg_of X G a_tell_state,
    F_is_history,
    b_is_history,
    PySem.W.mg_of X G a_is_history,
    F_do_history,
    b_do_history,
    PySem.W.mg_of X G a_do_history,
    F_lasts,
    b_lasts,
    PySem.W.mg_of X G a_lasts,
    F_first_hour,
    b_first_hour,
    PySem.W.mg_of X G a_first_hour,
    F_next_go,
    b_next_go,
    PySem.W.mg_of X G a_next_go,
    F_ahead,
    b_ahead,
    PySem.W.mg_of X G a_ahead,
    F_has_hundredths,
    b_has_hundredths,
    PySem.W.mg_of X G a_has_hundredths,
    F_full,
    b_full,
    PySem.W.mg_of X G a_full,
    F_flows,
    b_flows,
    PySem.W.mg_of X G a_flows,
    F_is_outlook,
    b_is_outlook,
    PySem.W.mg_of X G a_is_outlook,
    F_look_ahead,
    b_look_ahead,
    PySem.W.mg_of X G a_look_ahead,
    F_may_start,
    b_may_start,
    PySem.W.mg_of X G a_may_start,
    F_started,
    b_started,
    PySem.W.mg_of X G a_started,
    F_answer_of,
    b_answer_of,
    PySem.W.mg_of X G a_answer_of,
    F_answers,
    b_answers,
    PySem.W.mg_of X G a_answers⟩
end Sp
end
section
set_option Elab.async false
set_option linter.all false
set_option maxRecDepth 100000
set_option maxHeartbeats 3900000
namespace Sp
open PySem PySem.Spec PyProof.Rows L2
theorem main {P : Program} {w : World} {fa : Addr} {K : PySem.W.Frag} {h : Heap} {mg : Str → Option Value} (X : K.In h) (G : h.Ns mainGlobals mg) (hfa : mg "answers" = some (.ref fa))
    {C_Sizes C_State C_Ship C_Leg f_Sizes_init f_State_init f_copy_of f_switches f_what_is_set f_wanted f_Ship_init f_Ship_keep f_Ship_take_back f_Ship_do_again f_Leg_init f_way_end f_leg_in f_in_port f_may_make f_may_let_grey f_may_let_black f_grey_let_go f_black_let_go f_water_made f_grey_part f_water_used f_let_go f_make_water f_use_water f_pass_hour f_pass_hours f_may_now f_room f_wants f_where f_look f_end f_tanks f_sums f_ask f_add_leg f_set_persons f_set_switches f_bunker f_give_ashore f_let_hours_go_by f_is_change f_change_state f_make_change f_back f_again f_tell_state f_is_history f_do_history f_lasts f_first_hour f_next_go f_ahead f_has_hundredths f_full f_flows f_is_outlook f_look_ahead f_may_start f_started f_answer_of f_answers : Addr}
    {t_START t_LEG t_PERSONS t_SET t_BUNKER t_ASHORE t_HOURS t_LASTS t_NEXT_GO t_MAY t_AHEAD t_ROOM t_WANTS t_WHERE t_LOOK t_END t_FULL t_TANKS t_FLOWS t_BACK t_AGAIN t_STATE t_NONE_THERE t_TOO_LITTLE t_NOT_HERE t_SO_ALREADY t_WRONG_NUMBER t_NO_MORE t_NOT_SOON t_NO_ROOM t_TOO_LATE t_MOST_KEPT t_MOST_LEGS t_MOST_LEG_HOURS t_MOST_MILES t_MOST_KNOTS t_LAST_HOUR t_MAKING_MILES t_GREY_MILES t_GREY_KNOTS t_BLACK_MILES t_BLACK_KNOTS t_MOST_PERSONS t_MOST_USES t_MOST_HOURS_AT_ONCE t_MOST_TAKEN_IN t_MOST_HOURS_AHEAD t_MOST_LITRES : Tok}
    {p_WIDTHS : Addr}
    {od_Sizes_init an_Sizes_init : Option Addr} {sl_Sizes_init : Array (Option Value)} {oc_Sizes_init kV_Sizes_init dc_Sizes_init pm_Sizes_init cd_Sizes_init ct_Sizes_init : Value}
    {od_State_init an_State_init : Option Addr} {sl_State_init : Array (Option Value)} {oc_State_init kV_State_init dc_State_init pm_State_init cd_State_init ct_State_init : Value}
    {od_copy_of an_copy_of : Option Addr} {sl_copy_of : Array (Option Value)} {oc_copy_of kV_copy_of dc_copy_of pm_copy_of cd_copy_of ct_copy_of : Value}
    {od_switches an_switches : Option Addr} {sl_switches : Array (Option Value)} {oc_switches kV_switches dc_switches pm_switches cd_switches ct_switches : Value}
    {od_what_is_set an_what_is_set : Option Addr} {sl_what_is_set : Array (Option Value)} {oc_what_is_set kV_what_is_set dc_what_is_set pm_what_is_set cd_what_is_set ct_what_is_set : Value}
    {od_wanted an_wanted : Option Addr} {sl_wanted : Array (Option Value)} {oc_wanted kV_wanted dc_wanted pm_wanted cd_wanted ct_wanted : Value}
    {od_Ship_init an_Ship_init : Option Addr} {sl_Ship_init : Array (Option Value)} {oc_Ship_init kV_Ship_init dc_Ship_init pm_Ship_init cd_Ship_init ct_Ship_init : Value}
    {od_Ship_keep an_Ship_keep : Option Addr} {sl_Ship_keep : Array (Option Value)} {oc_Ship_keep kV_Ship_keep dc_Ship_keep pm_Ship_keep cd_Ship_keep ct_Ship_keep : Value}
    {od_Ship_take_back an_Ship_take_back : Option Addr} {sl_Ship_take_back : Array (Option Value)} {oc_Ship_take_back kV_Ship_take_back dc_Ship_take_back pm_Ship_take_back cd_Ship_take_back ct_Ship_take_back : Value}
    {od_Ship_do_again an_Ship_do_again : Option Addr} {sl_Ship_do_again : Array (Option Value)} {oc_Ship_do_again kV_Ship_do_again dc_Ship_do_again pm_Ship_do_again cd_Ship_do_again ct_Ship_do_again : Value}
    {od_Leg_init an_Leg_init : Option Addr} {sl_Leg_init : Array (Option Value)} {oc_Leg_init kV_Leg_init dc_Leg_init pm_Leg_init cd_Leg_init ct_Leg_init : Value}
    {od_way_end an_way_end : Option Addr} {sl_way_end : Array (Option Value)} {oc_way_end kV_way_end dc_way_end pm_way_end cd_way_end ct_way_end : Value}
    {od_leg_in an_leg_in : Option Addr} {sl_leg_in : Array (Option Value)} {oc_leg_in kV_leg_in dc_leg_in pm_leg_in cd_leg_in ct_leg_in : Value}
    {od_in_port an_in_port : Option Addr} {sl_in_port : Array (Option Value)} {oc_in_port kV_in_port dc_in_port pm_in_port cd_in_port ct_in_port : Value}
    {od_may_make an_may_make : Option Addr} {sl_may_make : Array (Option Value)} {oc_may_make kV_may_make dc_may_make pm_may_make cd_may_make ct_may_make : Value}
    {od_may_let_grey an_may_let_grey : Option Addr} {sl_may_let_grey : Array (Option Value)} {oc_may_let_grey kV_may_let_grey dc_may_let_grey pm_may_let_grey cd_may_let_grey ct_may_let_grey : Value}
    {od_may_let_black an_may_let_black : Option Addr} {sl_may_let_black : Array (Option Value)} {oc_may_let_black kV_may_let_black dc_may_let_black pm_may_let_black cd_may_let_black ct_may_let_black : Value}
    {od_grey_let_go an_grey_let_go : Option Addr} {sl_grey_let_go : Array (Option Value)} {oc_grey_let_go kV_grey_let_go dc_grey_let_go pm_grey_let_go cd_grey_let_go ct_grey_let_go : Value}
    {od_black_let_go an_black_let_go : Option Addr} {sl_black_let_go : Array (Option Value)} {oc_black_let_go kV_black_let_go dc_black_let_go pm_black_let_go cd_black_let_go ct_black_let_go : Value}
    {od_water_made an_water_made : Option Addr} {sl_water_made : Array (Option Value)} {oc_water_made kV_water_made dc_water_made pm_water_made cd_water_made ct_water_made : Value}
    {od_grey_part an_grey_part : Option Addr} {sl_grey_part : Array (Option Value)} {oc_grey_part kV_grey_part dc_grey_part pm_grey_part cd_grey_part ct_grey_part : Value}
    {od_water_used an_water_used : Option Addr} {sl_water_used : Array (Option Value)} {oc_water_used kV_water_used dc_water_used pm_water_used cd_water_used ct_water_used : Value}
    {od_let_go an_let_go : Option Addr} {sl_let_go : Array (Option Value)} {oc_let_go kV_let_go dc_let_go pm_let_go cd_let_go ct_let_go : Value}
    {od_make_water an_make_water : Option Addr} {sl_make_water : Array (Option Value)} {oc_make_water kV_make_water dc_make_water pm_make_water cd_make_water ct_make_water : Value}
    {od_use_water an_use_water : Option Addr} {sl_use_water : Array (Option Value)} {oc_use_water kV_use_water dc_use_water pm_use_water cd_use_water ct_use_water : Value}
    {od_pass_hour an_pass_hour : Option Addr} {sl_pass_hour : Array (Option Value)} {oc_pass_hour kV_pass_hour dc_pass_hour pm_pass_hour cd_pass_hour ct_pass_hour : Value}
    {od_pass_hours an_pass_hours : Option Addr} {sl_pass_hours : Array (Option Value)} {oc_pass_hours kV_pass_hours dc_pass_hours pm_pass_hours cd_pass_hours ct_pass_hours : Value}
    {od_may_now an_may_now : Option Addr} {sl_may_now : Array (Option Value)} {oc_may_now kV_may_now dc_may_now pm_may_now cd_may_now ct_may_now : Value}
    {od_room an_room : Option Addr} {sl_room : Array (Option Value)} {oc_room kV_room dc_room pm_room cd_room ct_room : Value}
    {od_wants an_wants : Option Addr} {sl_wants : Array (Option Value)} {oc_wants kV_wants dc_wants pm_wants cd_wants ct_wants : Value}
    {od_where an_where : Option Addr} {sl_where : Array (Option Value)} {oc_where kV_where dc_where pm_where cd_where ct_where : Value}
    {od_look an_look : Option Addr} {sl_look : Array (Option Value)} {oc_look kV_look dc_look pm_look cd_look ct_look : Value}
    {od_end an_end : Option Addr} {sl_end : Array (Option Value)} {oc_end kV_end dc_end pm_end cd_end ct_end : Value}
    {od_tanks an_tanks : Option Addr} {sl_tanks : Array (Option Value)} {oc_tanks kV_tanks dc_tanks pm_tanks cd_tanks ct_tanks : Value}
    {od_sums an_sums : Option Addr} {sl_sums : Array (Option Value)} {oc_sums kV_sums dc_sums pm_sums cd_sums ct_sums : Value}
    {od_ask an_ask : Option Addr} {sl_ask : Array (Option Value)} {oc_ask kV_ask dc_ask pm_ask cd_ask ct_ask : Value}
    {od_add_leg an_add_leg : Option Addr} {sl_add_leg : Array (Option Value)} {oc_add_leg kV_add_leg dc_add_leg pm_add_leg cd_add_leg ct_add_leg : Value}
    {od_set_persons an_set_persons : Option Addr} {sl_set_persons : Array (Option Value)} {oc_set_persons kV_set_persons dc_set_persons pm_set_persons cd_set_persons ct_set_persons : Value}
    {od_set_switches an_set_switches : Option Addr} {sl_set_switches : Array (Option Value)} {oc_set_switches kV_set_switches dc_set_switches pm_set_switches cd_set_switches ct_set_switches : Value}
    {od_bunker an_bunker : Option Addr} {sl_bunker : Array (Option Value)} {oc_bunker kV_bunker dc_bunker pm_bunker cd_bunker ct_bunker : Value}
    {od_give_ashore an_give_ashore : Option Addr} {sl_give_ashore : Array (Option Value)} {oc_give_ashore kV_give_ashore dc_give_ashore pm_give_ashore cd_give_ashore ct_give_ashore : Value}
    {od_let_hours_go_by an_let_hours_go_by : Option Addr} {sl_let_hours_go_by : Array (Option Value)} {oc_let_hours_go_by kV_let_hours_go_by dc_let_hours_go_by pm_let_hours_go_by cd_let_hours_go_by ct_let_hours_go_by : Value}
    {od_is_change an_is_change : Option Addr} {sl_is_change : Array (Option Value)} {oc_is_change kV_is_change dc_is_change pm_is_change cd_is_change ct_is_change : Value}
    {od_change_state an_change_state : Option Addr} {sl_change_state : Array (Option Value)} {oc_change_state kV_change_state dc_change_state pm_change_state cd_change_state ct_change_state : Value}
    {od_make_change an_make_change : Option Addr} {sl_make_change : Array (Option Value)} {oc_make_change kV_make_change dc_make_change pm_make_change cd_make_change ct_make_change : Value}
    {od_back an_back : Option Addr} {sl_back : Array (Option Value)} {oc_back kV_back dc_back pm_back cd_back ct_back : Value}
    {od_again an_again : Option Addr} {sl_again : Array (Option Value)} {oc_again kV_again dc_again pm_again cd_again ct_again : Value}
    {od_tell_state an_tell_state : Option Addr} {sl_tell_state : Array (Option Value)} {oc_tell_state kV_tell_state dc_tell_state pm_tell_state cd_tell_state ct_tell_state : Value}
    {od_is_history an_is_history : Option Addr} {sl_is_history : Array (Option Value)} {oc_is_history kV_is_history dc_is_history pm_is_history cd_is_history ct_is_history : Value}
    {od_do_history an_do_history : Option Addr} {sl_do_history : Array (Option Value)} {oc_do_history kV_do_history dc_do_history pm_do_history cd_do_history ct_do_history : Value}
    {od_lasts an_lasts : Option Addr} {sl_lasts : Array (Option Value)} {oc_lasts kV_lasts dc_lasts pm_lasts cd_lasts ct_lasts : Value}
    {od_first_hour an_first_hour : Option Addr} {sl_first_hour : Array (Option Value)} {oc_first_hour kV_first_hour dc_first_hour pm_first_hour cd_first_hour ct_first_hour : Value}
    {od_next_go an_next_go : Option Addr} {sl_next_go : Array (Option Value)} {oc_next_go kV_next_go dc_next_go pm_next_go cd_next_go ct_next_go : Value}
    {od_ahead an_ahead : Option Addr} {sl_ahead : Array (Option Value)} {oc_ahead kV_ahead dc_ahead pm_ahead cd_ahead ct_ahead : Value}
    {od_has_hundredths an_has_hundredths : Option Addr} {sl_has_hundredths : Array (Option Value)} {oc_has_hundredths kV_has_hundredths dc_has_hundredths pm_has_hundredths cd_has_hundredths ct_has_hundredths : Value}
    {od_full an_full : Option Addr} {sl_full : Array (Option Value)} {oc_full kV_full dc_full pm_full cd_full ct_full : Value}
    {od_flows an_flows : Option Addr} {sl_flows : Array (Option Value)} {oc_flows kV_flows dc_flows pm_flows cd_flows ct_flows : Value}
    {od_is_outlook an_is_outlook : Option Addr} {sl_is_outlook : Array (Option Value)} {oc_is_outlook kV_is_outlook dc_is_outlook pm_is_outlook cd_is_outlook ct_is_outlook : Value}
    {od_look_ahead an_look_ahead : Option Addr} {sl_look_ahead : Array (Option Value)} {oc_look_ahead kV_look_ahead dc_look_ahead pm_look_ahead cd_look_ahead ct_look_ahead : Value}
    {od_may_start an_may_start : Option Addr} {sl_may_start : Array (Option Value)} {oc_may_start kV_may_start dc_may_start pm_may_start cd_may_start ct_may_start : Value}
    {od_started an_started : Option Addr} {sl_started : Array (Option Value)} {oc_started kV_started dc_started pm_started cd_started ct_started : Value}
    {od_answer_of an_answer_of : Option Addr} {sl_answer_of : Array (Option Value)} {oc_answer_of kV_answer_of dc_answer_of pm_answer_of cd_answer_of ct_answer_of : Value}
    {od_answers an_answers : Option Addr} {sl_answers : Array (Option Value)} {oc_answers kV_answers dc_answers pm_answers cd_answers ct_answers : Value}
    {o_WIDTHS : Obj} {its_WIDTHS : Array Value} {n_WIDTHS : Nat}
    (no_len : PySem.W.nsIn K mainGlobals "len" = some none)
    (no_max : PySem.W.nsIn K mainGlobals "max" = some none)
    (no_min : PySem.W.nsIn K mainGlobals "min" = some none)
    (no_range : PySem.W.nsIn K mainGlobals "range" = some none)
    (k_START : PySem.W.nsIn K mainGlobals "START" = some (some (.int 0 t_START)))
    (k_LEG : PySem.W.nsIn K mainGlobals "LEG" = some (some (.int 1 t_LEG)))
    (k_PERSONS : PySem.W.nsIn K mainGlobals "PERSONS" = some (some (.int 2 t_PERSONS)))
    (k_SET : PySem.W.nsIn K mainGlobals "SET" = some (some (.int 3 t_SET)))
    (k_BUNKER : PySem.W.nsIn K mainGlobals "BUNKER" = some (some (.int 4 t_BUNKER)))
    (k_ASHORE : PySem.W.nsIn K mainGlobals "ASHORE" = some (some (.int 5 t_ASHORE)))
    (k_HOURS : PySem.W.nsIn K mainGlobals "HOURS" = some (some (.int 6 t_HOURS)))
    (k_LASTS : PySem.W.nsIn K mainGlobals "LASTS" = some (some (.int 7 t_LASTS)))
    (k_NEXT_GO : PySem.W.nsIn K mainGlobals "NEXT_GO" = some (some (.int 8 t_NEXT_GO)))
    (k_MAY : PySem.W.nsIn K mainGlobals "MAY" = some (some (.int 9 t_MAY)))
    (k_AHEAD : PySem.W.nsIn K mainGlobals "AHEAD" = some (some (.int 10 t_AHEAD)))
    (k_ROOM : PySem.W.nsIn K mainGlobals "ROOM" = some (some (.int 11 t_ROOM)))
    (k_WANTS : PySem.W.nsIn K mainGlobals "WANTS" = some (some (.int 12 t_WANTS)))
    (k_WHERE : PySem.W.nsIn K mainGlobals "WHERE" = some (some (.int 13 t_WHERE)))
    (k_LOOK : PySem.W.nsIn K mainGlobals "LOOK" = some (some (.int 14 t_LOOK)))
    (k_END : PySem.W.nsIn K mainGlobals "END" = some (some (.int 15 t_END)))
    (k_FULL : PySem.W.nsIn K mainGlobals "FULL" = some (some (.int 16 t_FULL)))
    (k_TANKS : PySem.W.nsIn K mainGlobals "TANKS" = some (some (.int 17 t_TANKS)))
    (k_FLOWS : PySem.W.nsIn K mainGlobals "FLOWS" = some (some (.int 18 t_FLOWS)))
    (k_BACK : PySem.W.nsIn K mainGlobals "BACK" = some (some (.int 20 t_BACK)))
    (k_AGAIN : PySem.W.nsIn K mainGlobals "AGAIN" = some (some (.int 21 t_AGAIN)))
    (k_STATE : PySem.W.nsIn K mainGlobals "STATE" = some (some (.int 22 t_STATE)))
    (k_NONE_THERE : PySem.W.nsIn K mainGlobals "NONE_THERE" = some (some (.int (-2) t_NONE_THERE)))
    (k_TOO_LITTLE : PySem.W.nsIn K mainGlobals "TOO_LITTLE" = some (some (.int (-12) t_TOO_LITTLE)))
    (k_NOT_HERE : PySem.W.nsIn K mainGlobals "NOT_HERE" = some (some (.int (-16) t_NOT_HERE)))
    (k_SO_ALREADY : PySem.W.nsIn K mainGlobals "SO_ALREADY" = some (some (.int (-17) t_SO_ALREADY)))
    (k_WRONG_NUMBER : PySem.W.nsIn K mainGlobals "WRONG_NUMBER" = some (some (.int (-22) t_WRONG_NUMBER)))
    (k_NO_MORE : PySem.W.nsIn K mainGlobals "NO_MORE" = some (some (.int (-28) t_NO_MORE)))
    (k_NOT_SOON : PySem.W.nsIn K mainGlobals "NOT_SOON" = some (some (.int (-33) t_NOT_SOON)))
    (k_NO_ROOM : PySem.W.nsIn K mainGlobals "NO_ROOM" = some (some (.int (-62) t_NO_ROOM)))
    (k_TOO_LATE : PySem.W.nsIn K mainGlobals "TOO_LATE" = some (some (.int (-75) t_TOO_LATE)))
    (k_MOST_KEPT : PySem.W.nsIn K mainGlobals "MOST_KEPT" = some (some (.int 30 t_MOST_KEPT)))
    (k_MOST_LEGS : PySem.W.nsIn K mainGlobals "MOST_LEGS" = some (some (.int 10 t_MOST_LEGS)))
    (k_MOST_LEG_HOURS : PySem.W.nsIn K mainGlobals "MOST_LEG_HOURS" = some (some (.int 500 t_MOST_LEG_HOURS)))
    (k_MOST_MILES : PySem.W.nsIn K mainGlobals "MOST_MILES" = some (some (.int 1000 t_MOST_MILES)))
    (k_MOST_KNOTS : PySem.W.nsIn K mainGlobals "MOST_KNOTS" = some (some (.int 40 t_MOST_KNOTS)))
    (k_LAST_HOUR : PySem.W.nsIn K mainGlobals "LAST_HOUR" = some (some (.int 10000 t_LAST_HOUR)))
    (k_MAKING_MILES : PySem.W.nsIn K mainGlobals "MAKING_MILES" = some (some (.int 12 t_MAKING_MILES)))
    (k_GREY_MILES : PySem.W.nsIn K mainGlobals "GREY_MILES" = some (some (.int 4 t_GREY_MILES)))
    (k_GREY_KNOTS : PySem.W.nsIn K mainGlobals "GREY_KNOTS" = some (some (.int 6 t_GREY_KNOTS)))
    (k_BLACK_MILES : PySem.W.nsIn K mainGlobals "BLACK_MILES" = some (some (.int 12 t_BLACK_MILES)))
    (k_BLACK_KNOTS : PySem.W.nsIn K mainGlobals "BLACK_KNOTS" = some (some (.int 4 t_BLACK_KNOTS)))
    (k_MOST_PERSONS : PySem.W.nsIn K mainGlobals "MOST_PERSONS" = some (some (.int 5000 t_MOST_PERSONS)))
    (k_MOST_USES : PySem.W.nsIn K mainGlobals "MOST_USES" = some (some (.int 80 t_MOST_USES)))
    (k_MOST_HOURS_AT_ONCE : PySem.W.nsIn K mainGlobals "MOST_HOURS_AT_ONCE" = some (some (.int 500 t_MOST_HOURS_AT_ONCE)))
    (k_MOST_TAKEN_IN : PySem.W.nsIn K mainGlobals "MOST_TAKEN_IN" = some (some (.int 1000000000 t_MOST_TAKEN_IN)))
    (k_MOST_HOURS_AHEAD : PySem.W.nsIn K mainGlobals "MOST_HOURS_AHEAD" = some (some (.int 500 t_MOST_HOURS_AHEAD)))
    (k_MOST_LITRES : PySem.W.nsIn K mainGlobals "MOST_LITRES" = some (some (.int 10000000 t_MOST_LITRES)))
    (p1_WIDTHS : PySem.W.nsIn K mainGlobals "WIDTHS" = some (some (.ref p_WIDTHS)))
    (p2_WIDTHS : K.lookup p_WIDTHS = some o_WIDTHS)
    (p3_WIDTHS : o_WIDTHS.cls = .type "tuple")
    (p4_WIDTHS : o_WIDTHS.data = .seq its_WIDTHS n_WIDTHS)
    (p5_WIDTHS : its_WIDTHS.size ≤ sizeLine)
    (p6_WIDTHS : Vals (([6, 3, 2, 3, 1, 2, 1, 0, 0, 0, 1, 0, 0, 1, 1, 0, 1, 0, 0, 0, 0, 0, 0] : List Int).map V.int) its_WIDTHS.toList)
    (cC_Sizes : PySem.W.nsIn K mainGlobals "Sizes" = some (some (.ref C_Sizes)))
    (pg_Sizes : PySem.W.plainGet K C_Sizes Str.empty = true)
    (hd_Sizes : PySem.W.hasDictIn K C_Sizes = true)
    (po_Sizes : PySem.W.plainOver K C_Sizes = true)
    (sa_Sizes : PySem.W.findIn K (.ref C_Sizes) "__setattr__" = some (some (.builtin "object.__setattr__")))
    (mk_Sizes : PySem.W.makesIn K C_Sizes = true)
    (kc_Sizes : PySem.W.keepIn K (.ref C_Sizes) = true)
    (n_Sizes_fresh : PySem.W.findIn K (.ref C_Sizes) "fresh" = some none)
    (n_Sizes_makes : PySem.W.findIn K (.ref C_Sizes) "makes" = some none)
    (n_Sizes_grey : PySem.W.findIn K (.ref C_Sizes) "grey" = some none)
    (n_Sizes_grey_go : PySem.W.findIn K (.ref C_Sizes) "grey_go" = some none)
    (n_Sizes_black : PySem.W.findIn K (.ref C_Sizes) "black" = some none)
    (n_Sizes_black_go : PySem.W.findIn K (.ref C_Sizes) "black_go" = some none)
    (cC_State : PySem.W.nsIn K mainGlobals "State" = some (some (.ref C_State)))
    (pg_State : PySem.W.plainGet K C_State Str.empty = true)
    (hd_State : PySem.W.hasDictIn K C_State = true)
    (po_State : PySem.W.plainOver K C_State = true)
    (sa_State : PySem.W.findIn K (.ref C_State) "__setattr__" = some (some (.builtin "object.__setattr__")))
    (mk_State : PySem.W.makesIn K C_State = true)
    (kc_State : PySem.W.keepIn K (.ref C_State) = true)
    (n_State_sizes : PySem.W.findIn K (.ref C_State) "sizes" = some none)
    (n_State_legs : PySem.W.findIn K (.ref C_State) "legs" = some none)
    (n_State_hour : PySem.W.findIn K (.ref C_State) "hour" = some none)
    (n_State_persons : PySem.W.findIn K (.ref C_State) "persons" = some none)
    (n_State_uses : PySem.W.findIn K (.ref C_State) "uses" = some none)
    (n_State_making : PySem.W.findIn K (.ref C_State) "making" = some none)
    (n_State_letting_grey : PySem.W.findIn K (.ref C_State) "letting_grey" = some none)
    (n_State_letting_black : PySem.W.findIn K (.ref C_State) "letting_black" = some none)
    (n_State_fresh : PySem.W.findIn K (.ref C_State) "fresh" = some none)
    (n_State_grey : PySem.W.findIn K (.ref C_State) "grey" = some none)
    (n_State_black : PySem.W.findIn K (.ref C_State) "black" = some none)
    (n_State_taken_in : PySem.W.findIn K (.ref C_State) "taken_in" = some none)
    (n_State_used : PySem.W.findIn K (.ref C_State) "used" = some none)
    (n_State_grey_gone : PySem.W.findIn K (.ref C_State) "grey_gone" = some none)
    (n_State_black_gone : PySem.W.findIn K (.ref C_State) "black_gone" = some none)
    (n_State_ashore : PySem.W.findIn K (.ref C_State) "ashore" = some none)
    (n_State_lacked : PySem.W.findIn K (.ref C_State) "lacked" = some none)
    (cC_Ship : PySem.W.nsIn K mainGlobals "Ship" = some (some (.ref C_Ship)))
    (pg_Ship : PySem.W.plainGet K C_Ship Str.empty = true)
    (hd_Ship : PySem.W.hasDictIn K C_Ship = true)
    (po_Ship : PySem.W.plainOver K C_Ship = true)
    (sa_Ship : PySem.W.findIn K (.ref C_Ship) "__setattr__" = some (some (.builtin "object.__setattr__")))
    (mk_Ship : PySem.W.makesIn K C_Ship = true)
    (kc_Ship : PySem.W.keepIn K (.ref C_Ship) = true)
    (n_Ship_now : PySem.W.findIn K (.ref C_Ship) "now" = some none)
    (n_Ship_earlier : PySem.W.findIn K (.ref C_Ship) "earlier" = some none)
    (n_Ship_undone : PySem.W.findIn K (.ref C_Ship) "undone" = some none)
    (cC_Leg : PySem.W.nsIn K mainGlobals "Leg" = some (some (.ref C_Leg)))
    (pg_Leg : PySem.W.plainGet K C_Leg Str.empty = true)
    (hd_Leg : PySem.W.hasDictIn K C_Leg = true)
    (po_Leg : PySem.W.plainOver K C_Leg = true)
    (sa_Leg : PySem.W.findIn K (.ref C_Leg) "__setattr__" = some (some (.builtin "object.__setattr__")))
    (mk_Leg : PySem.W.makesIn K C_Leg = true)
    (kc_Leg : PySem.W.keepIn K (.ref C_Leg) = true)
    (n_Leg_end : PySem.W.findIn K (.ref C_Leg) "end" = some none)
    (n_Leg_miles : PySem.W.findIn K (.ref C_Leg) "miles" = some none)
    (n_Leg_knots : PySem.W.findIn K (.ref C_Leg) "knots" = some none)
    (a_Sizes_init : PySem.W.findIn K (.ref C_Sizes) "__init__" = some (some (.ref f_Sizes_init)))
    (i_Sizes_init : PySem.W.isFn K (.ref f_Sizes_init) = true)
    (l_Sizes_init : K.lookup f_Sizes_init = some ⟨oc_Sizes_init, od_Sizes_init, .func (PySem.W.fnOf "__init__" "Sizes.__init__" (defArgs s_Sizes_init) (defBody s_Sizes_init) (defScope s_Sizes_init) .none kV_Sizes_init dc_Sizes_init pm_Sizes_init an_Sizes_init cd_Sizes_init ct_Sizes_init), sl_Sizes_init⟩)
    (c_Sizes_init : PySem.W.codeIn K cd_Sizes_init "Sizes.__init__" = true)
    (kp_Sizes_init : PySem.W.keepIn K (.ref f_Sizes_init) = true)
    (a_State_init : PySem.W.findIn K (.ref C_State) "__init__" = some (some (.ref f_State_init)))
    (i_State_init : PySem.W.isFn K (.ref f_State_init) = true)
    (l_State_init : K.lookup f_State_init = some ⟨oc_State_init, od_State_init, .func (PySem.W.fnOf "__init__" "State.__init__" (defArgs s_State_init) (defBody s_State_init) (defScope s_State_init) .none kV_State_init dc_State_init pm_State_init an_State_init cd_State_init ct_State_init), sl_State_init⟩)
    (c_State_init : PySem.W.codeIn K cd_State_init "State.__init__" = true)
    (kp_State_init : PySem.W.keepIn K (.ref f_State_init) = true)
    (a_copy_of : PySem.W.nsIn K mainGlobals "copy_of" = some (some (.ref f_copy_of)))
    (l_copy_of : K.lookup f_copy_of = some ⟨oc_copy_of, od_copy_of, .func (PySem.W.fnOf "copy_of" "copy_of" (defArgs s_copy_of) (defBody s_copy_of) (defScope s_copy_of) .none kV_copy_of dc_copy_of pm_copy_of an_copy_of cd_copy_of ct_copy_of), sl_copy_of⟩)
    (c_copy_of : PySem.W.codeIn K cd_copy_of "copy_of" = true)
    (kp_copy_of : PySem.W.keepIn K (.ref f_copy_of) = true)
    (a_switches : PySem.W.nsIn K mainGlobals "switches" = some (some (.ref f_switches)))
    (l_switches : K.lookup f_switches = some ⟨oc_switches, od_switches, .func (PySem.W.fnOf "switches" "switches" (defArgs s_switches) (defBody s_switches) (defScope s_switches) .none kV_switches dc_switches pm_switches an_switches cd_switches ct_switches), sl_switches⟩)
    (c_switches : PySem.W.codeIn K cd_switches "switches" = true)
    (kp_switches : PySem.W.keepIn K (.ref f_switches) = true)
    (a_what_is_set : PySem.W.nsIn K mainGlobals "what_is_set" = some (some (.ref f_what_is_set)))
    (l_what_is_set : K.lookup f_what_is_set = some ⟨oc_what_is_set, od_what_is_set, .func (PySem.W.fnOf "what_is_set" "what_is_set" (defArgs s_what_is_set) (defBody s_what_is_set) (defScope s_what_is_set) .none kV_what_is_set dc_what_is_set pm_what_is_set an_what_is_set cd_what_is_set ct_what_is_set), sl_what_is_set⟩)
    (c_what_is_set : PySem.W.codeIn K cd_what_is_set "what_is_set" = true)
    (kp_what_is_set : PySem.W.keepIn K (.ref f_what_is_set) = true)
    (a_wanted : PySem.W.nsIn K mainGlobals "wanted" = some (some (.ref f_wanted)))
    (l_wanted : K.lookup f_wanted = some ⟨oc_wanted, od_wanted, .func (PySem.W.fnOf "wanted" "wanted" (defArgs s_wanted) (defBody s_wanted) (defScope s_wanted) .none kV_wanted dc_wanted pm_wanted an_wanted cd_wanted ct_wanted), sl_wanted⟩)
    (c_wanted : PySem.W.codeIn K cd_wanted "wanted" = true)
    (kp_wanted : PySem.W.keepIn K (.ref f_wanted) = true)
    (a_Ship_init : PySem.W.findIn K (.ref C_Ship) "__init__" = some (some (.ref f_Ship_init)))
    (i_Ship_init : PySem.W.isFn K (.ref f_Ship_init) = true)
    (l_Ship_init : K.lookup f_Ship_init = some ⟨oc_Ship_init, od_Ship_init, .func (PySem.W.fnOf "__init__" "Ship.__init__" (defArgs s_Ship_init) (defBody s_Ship_init) (defScope s_Ship_init) .none kV_Ship_init dc_Ship_init pm_Ship_init an_Ship_init cd_Ship_init ct_Ship_init), sl_Ship_init⟩)
    (c_Ship_init : PySem.W.codeIn K cd_Ship_init "Ship.__init__" = true)
    (kp_Ship_init : PySem.W.keepIn K (.ref f_Ship_init) = true)
    (a_Ship_keep : PySem.W.findIn K (.ref C_Ship) "keep" = some (some (.ref f_Ship_keep)))
    (i_Ship_keep : PySem.W.isFn K (.ref f_Ship_keep) = true)
    (l_Ship_keep : K.lookup f_Ship_keep = some ⟨oc_Ship_keep, od_Ship_keep, .func (PySem.W.fnOf "keep" "Ship.keep" (defArgs s_Ship_keep) (defBody s_Ship_keep) (defScope s_Ship_keep) .none kV_Ship_keep dc_Ship_keep pm_Ship_keep an_Ship_keep cd_Ship_keep ct_Ship_keep), sl_Ship_keep⟩)
    (c_Ship_keep : PySem.W.codeIn K cd_Ship_keep "Ship.keep" = true)
    (kp_Ship_keep : PySem.W.keepIn K (.ref f_Ship_keep) = true)
    (a_Ship_take_back : PySem.W.findIn K (.ref C_Ship) "take_back" = some (some (.ref f_Ship_take_back)))
    (i_Ship_take_back : PySem.W.isFn K (.ref f_Ship_take_back) = true)
    (l_Ship_take_back : K.lookup f_Ship_take_back = some ⟨oc_Ship_take_back, od_Ship_take_back, .func (PySem.W.fnOf "take_back" "Ship.take_back" (defArgs s_Ship_take_back) (defBody s_Ship_take_back) (defScope s_Ship_take_back) .none kV_Ship_take_back dc_Ship_take_back pm_Ship_take_back an_Ship_take_back cd_Ship_take_back ct_Ship_take_back), sl_Ship_take_back⟩)
    (c_Ship_take_back : PySem.W.codeIn K cd_Ship_take_back "Ship.take_back" = true)
    (kp_Ship_take_back : PySem.W.keepIn K (.ref f_Ship_take_back) = true)
    (a_Ship_do_again : PySem.W.findIn K (.ref C_Ship) "do_again" = some (some (.ref f_Ship_do_again)))
    (i_Ship_do_again : PySem.W.isFn K (.ref f_Ship_do_again) = true)
    (l_Ship_do_again : K.lookup f_Ship_do_again = some ⟨oc_Ship_do_again, od_Ship_do_again, .func (PySem.W.fnOf "do_again" "Ship.do_again" (defArgs s_Ship_do_again) (defBody s_Ship_do_again) (defScope s_Ship_do_again) .none kV_Ship_do_again dc_Ship_do_again pm_Ship_do_again an_Ship_do_again cd_Ship_do_again ct_Ship_do_again), sl_Ship_do_again⟩)
    (c_Ship_do_again : PySem.W.codeIn K cd_Ship_do_again "Ship.do_again" = true)
    (kp_Ship_do_again : PySem.W.keepIn K (.ref f_Ship_do_again) = true)
    (a_Leg_init : PySem.W.findIn K (.ref C_Leg) "__init__" = some (some (.ref f_Leg_init)))
    (i_Leg_init : PySem.W.isFn K (.ref f_Leg_init) = true)
    (l_Leg_init : K.lookup f_Leg_init = some ⟨oc_Leg_init, od_Leg_init, .func (PySem.W.fnOf "__init__" "Leg.__init__" (defArgs s_Leg_init) (defBody s_Leg_init) (defScope s_Leg_init) .none kV_Leg_init dc_Leg_init pm_Leg_init an_Leg_init cd_Leg_init ct_Leg_init), sl_Leg_init⟩)
    (c_Leg_init : PySem.W.codeIn K cd_Leg_init "Leg.__init__" = true)
    (kp_Leg_init : PySem.W.keepIn K (.ref f_Leg_init) = true)
    (a_way_end : PySem.W.nsIn K mainGlobals "way_end" = some (some (.ref f_way_end)))
    (l_way_end : K.lookup f_way_end = some ⟨oc_way_end, od_way_end, .func (PySem.W.fnOf "way_end" "way_end" (defArgs s_way_end) (defBody s_way_end) (defScope s_way_end) .none kV_way_end dc_way_end pm_way_end an_way_end cd_way_end ct_way_end), sl_way_end⟩)
    (c_way_end : PySem.W.codeIn K cd_way_end "way_end" = true)
    (kp_way_end : PySem.W.keepIn K (.ref f_way_end) = true)
    (a_leg_in : PySem.W.nsIn K mainGlobals "leg_in" = some (some (.ref f_leg_in)))
    (l_leg_in : K.lookup f_leg_in = some ⟨oc_leg_in, od_leg_in, .func (PySem.W.fnOf "leg_in" "leg_in" (defArgs s_leg_in) (defBody s_leg_in) (defScope s_leg_in) .none kV_leg_in dc_leg_in pm_leg_in an_leg_in cd_leg_in ct_leg_in), sl_leg_in⟩)
    (c_leg_in : PySem.W.codeIn K cd_leg_in "leg_in" = true)
    (kp_leg_in : PySem.W.keepIn K (.ref f_leg_in) = true)
    (a_in_port : PySem.W.nsIn K mainGlobals "in_port" = some (some (.ref f_in_port)))
    (l_in_port : K.lookup f_in_port = some ⟨oc_in_port, od_in_port, .func (PySem.W.fnOf "in_port" "in_port" (defArgs s_in_port) (defBody s_in_port) (defScope s_in_port) .none kV_in_port dc_in_port pm_in_port an_in_port cd_in_port ct_in_port), sl_in_port⟩)
    (c_in_port : PySem.W.codeIn K cd_in_port "in_port" = true)
    (kp_in_port : PySem.W.keepIn K (.ref f_in_port) = true)
    (a_may_make : PySem.W.nsIn K mainGlobals "may_make" = some (some (.ref f_may_make)))
    (l_may_make : K.lookup f_may_make = some ⟨oc_may_make, od_may_make, .func (PySem.W.fnOf "may_make" "may_make" (defArgs s_may_make) (defBody s_may_make) (defScope s_may_make) .none kV_may_make dc_may_make pm_may_make an_may_make cd_may_make ct_may_make), sl_may_make⟩)
    (c_may_make : PySem.W.codeIn K cd_may_make "may_make" = true)
    (kp_may_make : PySem.W.keepIn K (.ref f_may_make) = true)
    (a_may_let_grey : PySem.W.nsIn K mainGlobals "may_let_grey" = some (some (.ref f_may_let_grey)))
    (l_may_let_grey : K.lookup f_may_let_grey = some ⟨oc_may_let_grey, od_may_let_grey, .func (PySem.W.fnOf "may_let_grey" "may_let_grey" (defArgs s_may_let_grey) (defBody s_may_let_grey) (defScope s_may_let_grey) .none kV_may_let_grey dc_may_let_grey pm_may_let_grey an_may_let_grey cd_may_let_grey ct_may_let_grey), sl_may_let_grey⟩)
    (c_may_let_grey : PySem.W.codeIn K cd_may_let_grey "may_let_grey" = true)
    (kp_may_let_grey : PySem.W.keepIn K (.ref f_may_let_grey) = true)
    (a_may_let_black : PySem.W.nsIn K mainGlobals "may_let_black" = some (some (.ref f_may_let_black)))
    (l_may_let_black : K.lookup f_may_let_black = some ⟨oc_may_let_black, od_may_let_black, .func (PySem.W.fnOf "may_let_black" "may_let_black" (defArgs s_may_let_black) (defBody s_may_let_black) (defScope s_may_let_black) .none kV_may_let_black dc_may_let_black pm_may_let_black an_may_let_black cd_may_let_black ct_may_let_black), sl_may_let_black⟩)
    (c_may_let_black : PySem.W.codeIn K cd_may_let_black "may_let_black" = true)
    (kp_may_let_black : PySem.W.keepIn K (.ref f_may_let_black) = true)
    (a_grey_let_go : PySem.W.nsIn K mainGlobals "grey_let_go" = some (some (.ref f_grey_let_go)))
    (l_grey_let_go : K.lookup f_grey_let_go = some ⟨oc_grey_let_go, od_grey_let_go, .func (PySem.W.fnOf "grey_let_go" "grey_let_go" (defArgs s_grey_let_go) (defBody s_grey_let_go) (defScope s_grey_let_go) .none kV_grey_let_go dc_grey_let_go pm_grey_let_go an_grey_let_go cd_grey_let_go ct_grey_let_go), sl_grey_let_go⟩)
    (c_grey_let_go : PySem.W.codeIn K cd_grey_let_go "grey_let_go" = true)
    (kp_grey_let_go : PySem.W.keepIn K (.ref f_grey_let_go) = true)
    (a_black_let_go : PySem.W.nsIn K mainGlobals "black_let_go" = some (some (.ref f_black_let_go)))
    (l_black_let_go : K.lookup f_black_let_go = some ⟨oc_black_let_go, od_black_let_go, .func (PySem.W.fnOf "black_let_go" "black_let_go" (defArgs s_black_let_go) (defBody s_black_let_go) (defScope s_black_let_go) .none kV_black_let_go dc_black_let_go pm_black_let_go an_black_let_go cd_black_let_go ct_black_let_go), sl_black_let_go⟩)
    (c_black_let_go : PySem.W.codeIn K cd_black_let_go "black_let_go" = true)
    (kp_black_let_go : PySem.W.keepIn K (.ref f_black_let_go) = true)
    (a_water_made : PySem.W.nsIn K mainGlobals "water_made" = some (some (.ref f_water_made)))
    (l_water_made : K.lookup f_water_made = some ⟨oc_water_made, od_water_made, .func (PySem.W.fnOf "water_made" "water_made" (defArgs s_water_made) (defBody s_water_made) (defScope s_water_made) .none kV_water_made dc_water_made pm_water_made an_water_made cd_water_made ct_water_made), sl_water_made⟩)
    (c_water_made : PySem.W.codeIn K cd_water_made "water_made" = true)
    (kp_water_made : PySem.W.keepIn K (.ref f_water_made) = true)
    (a_grey_part : PySem.W.nsIn K mainGlobals "grey_part" = some (some (.ref f_grey_part)))
    (l_grey_part : K.lookup f_grey_part = some ⟨oc_grey_part, od_grey_part, .func (PySem.W.fnOf "grey_part" "grey_part" (defArgs s_grey_part) (defBody s_grey_part) (defScope s_grey_part) .none kV_grey_part dc_grey_part pm_grey_part an_grey_part cd_grey_part ct_grey_part), sl_grey_part⟩)
    (c_grey_part : PySem.W.codeIn K cd_grey_part "grey_part" = true)
    (kp_grey_part : PySem.W.keepIn K (.ref f_grey_part) = true)
    (a_water_used : PySem.W.nsIn K mainGlobals "water_used" = some (some (.ref f_water_used)))
    (l_water_used : K.lookup f_water_used = some ⟨oc_water_used, od_water_used, .func (PySem.W.fnOf "water_used" "water_used" (defArgs s_water_used) (defBody s_water_used) (defScope s_water_used) .none kV_water_used dc_water_used pm_water_used an_water_used cd_water_used ct_water_used), sl_water_used⟩)
    (c_water_used : PySem.W.codeIn K cd_water_used "water_used" = true)
    (kp_water_used : PySem.W.keepIn K (.ref f_water_used) = true)
    (a_let_go : PySem.W.nsIn K mainGlobals "let_go" = some (some (.ref f_let_go)))
    (l_let_go : K.lookup f_let_go = some ⟨oc_let_go, od_let_go, .func (PySem.W.fnOf "let_go" "let_go" (defArgs s_let_go) (defBody s_let_go) (defScope s_let_go) .none kV_let_go dc_let_go pm_let_go an_let_go cd_let_go ct_let_go), sl_let_go⟩)
    (c_let_go : PySem.W.codeIn K cd_let_go "let_go" = true)
    (kp_let_go : PySem.W.keepIn K (.ref f_let_go) = true)
    (a_make_water : PySem.W.nsIn K mainGlobals "make_water" = some (some (.ref f_make_water)))
    (l_make_water : K.lookup f_make_water = some ⟨oc_make_water, od_make_water, .func (PySem.W.fnOf "make_water" "make_water" (defArgs s_make_water) (defBody s_make_water) (defScope s_make_water) .none kV_make_water dc_make_water pm_make_water an_make_water cd_make_water ct_make_water), sl_make_water⟩)
    (c_make_water : PySem.W.codeIn K cd_make_water "make_water" = true)
    (kp_make_water : PySem.W.keepIn K (.ref f_make_water) = true)
    (a_use_water : PySem.W.nsIn K mainGlobals "use_water" = some (some (.ref f_use_water)))
    (l_use_water : K.lookup f_use_water = some ⟨oc_use_water, od_use_water, .func (PySem.W.fnOf "use_water" "use_water" (defArgs s_use_water) (defBody s_use_water) (defScope s_use_water) .none kV_use_water dc_use_water pm_use_water an_use_water cd_use_water ct_use_water), sl_use_water⟩)
    (c_use_water : PySem.W.codeIn K cd_use_water "use_water" = true)
    (kp_use_water : PySem.W.keepIn K (.ref f_use_water) = true)
    (a_pass_hour : PySem.W.nsIn K mainGlobals "pass_hour" = some (some (.ref f_pass_hour)))
    (l_pass_hour : K.lookup f_pass_hour = some ⟨oc_pass_hour, od_pass_hour, .func (PySem.W.fnOf "pass_hour" "pass_hour" (defArgs s_pass_hour) (defBody s_pass_hour) (defScope s_pass_hour) .none kV_pass_hour dc_pass_hour pm_pass_hour an_pass_hour cd_pass_hour ct_pass_hour), sl_pass_hour⟩)
    (c_pass_hour : PySem.W.codeIn K cd_pass_hour "pass_hour" = true)
    (kp_pass_hour : PySem.W.keepIn K (.ref f_pass_hour) = true)
    (a_pass_hours : PySem.W.nsIn K mainGlobals "pass_hours" = some (some (.ref f_pass_hours)))
    (l_pass_hours : K.lookup f_pass_hours = some ⟨oc_pass_hours, od_pass_hours, .func (PySem.W.fnOf "pass_hours" "pass_hours" (defArgs s_pass_hours) (defBody s_pass_hours) (defScope s_pass_hours) .none kV_pass_hours dc_pass_hours pm_pass_hours an_pass_hours cd_pass_hours ct_pass_hours), sl_pass_hours⟩)
    (c_pass_hours : PySem.W.codeIn K cd_pass_hours "pass_hours" = true)
    (kp_pass_hours : PySem.W.keepIn K (.ref f_pass_hours) = true)
    (a_may_now : PySem.W.nsIn K mainGlobals "may_now" = some (some (.ref f_may_now)))
    (l_may_now : K.lookup f_may_now = some ⟨oc_may_now, od_may_now, .func (PySem.W.fnOf "may_now" "may_now" (defArgs s_may_now) (defBody s_may_now) (defScope s_may_now) .none kV_may_now dc_may_now pm_may_now an_may_now cd_may_now ct_may_now), sl_may_now⟩)
    (c_may_now : PySem.W.codeIn K cd_may_now "may_now" = true)
    (kp_may_now : PySem.W.keepIn K (.ref f_may_now) = true)
    (a_room : PySem.W.nsIn K mainGlobals "room" = some (some (.ref f_room)))
    (l_room : K.lookup f_room = some ⟨oc_room, od_room, .func (PySem.W.fnOf "room" "room" (defArgs s_room) (defBody s_room) (defScope s_room) .none kV_room dc_room pm_room an_room cd_room ct_room), sl_room⟩)
    (c_room : PySem.W.codeIn K cd_room "room" = true)
    (kp_room : PySem.W.keepIn K (.ref f_room) = true)
    (a_wants : PySem.W.nsIn K mainGlobals "wants" = some (some (.ref f_wants)))
    (l_wants : K.lookup f_wants = some ⟨oc_wants, od_wants, .func (PySem.W.fnOf "wants" "wants" (defArgs s_wants) (defBody s_wants) (defScope s_wants) .none kV_wants dc_wants pm_wants an_wants cd_wants ct_wants), sl_wants⟩)
    (c_wants : PySem.W.codeIn K cd_wants "wants" = true)
    (kp_wants : PySem.W.keepIn K (.ref f_wants) = true)
    (a_where : PySem.W.nsIn K mainGlobals "where" = some (some (.ref f_where)))
    (l_where : K.lookup f_where = some ⟨oc_where, od_where, .func (PySem.W.fnOf "where" "where" (defArgs s_where) (defBody s_where) (defScope s_where) .none kV_where dc_where pm_where an_where cd_where ct_where), sl_where⟩)
    (c_where : PySem.W.codeIn K cd_where "where" = true)
    (kp_where : PySem.W.keepIn K (.ref f_where) = true)
    (a_look : PySem.W.nsIn K mainGlobals "look" = some (some (.ref f_look)))
    (l_look : K.lookup f_look = some ⟨oc_look, od_look, .func (PySem.W.fnOf "look" "look" (defArgs s_look) (defBody s_look) (defScope s_look) .none kV_look dc_look pm_look an_look cd_look ct_look), sl_look⟩)
    (c_look : PySem.W.codeIn K cd_look "look" = true)
    (kp_look : PySem.W.keepIn K (.ref f_look) = true)
    (a_end : PySem.W.nsIn K mainGlobals "end" = some (some (.ref f_end)))
    (l_end : K.lookup f_end = some ⟨oc_end, od_end, .func (PySem.W.fnOf "end" "end" (defArgs s_end) (defBody s_end) (defScope s_end) .none kV_end dc_end pm_end an_end cd_end ct_end), sl_end⟩)
    (c_end : PySem.W.codeIn K cd_end "end" = true)
    (kp_end : PySem.W.keepIn K (.ref f_end) = true)
    (a_tanks : PySem.W.nsIn K mainGlobals "tanks" = some (some (.ref f_tanks)))
    (l_tanks : K.lookup f_tanks = some ⟨oc_tanks, od_tanks, .func (PySem.W.fnOf "tanks" "tanks" (defArgs s_tanks) (defBody s_tanks) (defScope s_tanks) .none kV_tanks dc_tanks pm_tanks an_tanks cd_tanks ct_tanks), sl_tanks⟩)
    (c_tanks : PySem.W.codeIn K cd_tanks "tanks" = true)
    (kp_tanks : PySem.W.keepIn K (.ref f_tanks) = true)
    (a_sums : PySem.W.nsIn K mainGlobals "sums" = some (some (.ref f_sums)))
    (l_sums : K.lookup f_sums = some ⟨oc_sums, od_sums, .func (PySem.W.fnOf "sums" "sums" (defArgs s_sums) (defBody s_sums) (defScope s_sums) .none kV_sums dc_sums pm_sums an_sums cd_sums ct_sums), sl_sums⟩)
    (c_sums : PySem.W.codeIn K cd_sums "sums" = true)
    (kp_sums : PySem.W.keepIn K (.ref f_sums) = true)
    (a_ask : PySem.W.nsIn K mainGlobals "ask" = some (some (.ref f_ask)))
    (l_ask : K.lookup f_ask = some ⟨oc_ask, od_ask, .func (PySem.W.fnOf "ask" "ask" (defArgs s_ask) (defBody s_ask) (defScope s_ask) .none kV_ask dc_ask pm_ask an_ask cd_ask ct_ask), sl_ask⟩)
    (c_ask : PySem.W.codeIn K cd_ask "ask" = true)
    (kp_ask : PySem.W.keepIn K (.ref f_ask) = true)
    (a_add_leg : PySem.W.nsIn K mainGlobals "add_leg" = some (some (.ref f_add_leg)))
    (l_add_leg : K.lookup f_add_leg = some ⟨oc_add_leg, od_add_leg, .func (PySem.W.fnOf "add_leg" "add_leg" (defArgs s_add_leg) (defBody s_add_leg) (defScope s_add_leg) .none kV_add_leg dc_add_leg pm_add_leg an_add_leg cd_add_leg ct_add_leg), sl_add_leg⟩)
    (c_add_leg : PySem.W.codeIn K cd_add_leg "add_leg" = true)
    (kp_add_leg : PySem.W.keepIn K (.ref f_add_leg) = true)
    (a_set_persons : PySem.W.nsIn K mainGlobals "set_persons" = some (some (.ref f_set_persons)))
    (l_set_persons : K.lookup f_set_persons = some ⟨oc_set_persons, od_set_persons, .func (PySem.W.fnOf "set_persons" "set_persons" (defArgs s_set_persons) (defBody s_set_persons) (defScope s_set_persons) .none kV_set_persons dc_set_persons pm_set_persons an_set_persons cd_set_persons ct_set_persons), sl_set_persons⟩)
    (c_set_persons : PySem.W.codeIn K cd_set_persons "set_persons" = true)
    (kp_set_persons : PySem.W.keepIn K (.ref f_set_persons) = true)
    (a_set_switches : PySem.W.nsIn K mainGlobals "set_switches" = some (some (.ref f_set_switches)))
    (l_set_switches : K.lookup f_set_switches = some ⟨oc_set_switches, od_set_switches, .func (PySem.W.fnOf "set_switches" "set_switches" (defArgs s_set_switches) (defBody s_set_switches) (defScope s_set_switches) .none kV_set_switches dc_set_switches pm_set_switches an_set_switches cd_set_switches ct_set_switches), sl_set_switches⟩)
    (c_set_switches : PySem.W.codeIn K cd_set_switches "set_switches" = true)
    (kp_set_switches : PySem.W.keepIn K (.ref f_set_switches) = true)
    (a_bunker : PySem.W.nsIn K mainGlobals "bunker" = some (some (.ref f_bunker)))
    (l_bunker : K.lookup f_bunker = some ⟨oc_bunker, od_bunker, .func (PySem.W.fnOf "bunker" "bunker" (defArgs s_bunker) (defBody s_bunker) (defScope s_bunker) .none kV_bunker dc_bunker pm_bunker an_bunker cd_bunker ct_bunker), sl_bunker⟩)
    (c_bunker : PySem.W.codeIn K cd_bunker "bunker" = true)
    (kp_bunker : PySem.W.keepIn K (.ref f_bunker) = true)
    (a_give_ashore : PySem.W.nsIn K mainGlobals "give_ashore" = some (some (.ref f_give_ashore)))
    (l_give_ashore : K.lookup f_give_ashore = some ⟨oc_give_ashore, od_give_ashore, .func (PySem.W.fnOf "give_ashore" "give_ashore" (defArgs s_give_ashore) (defBody s_give_ashore) (defScope s_give_ashore) .none kV_give_ashore dc_give_ashore pm_give_ashore an_give_ashore cd_give_ashore ct_give_ashore), sl_give_ashore⟩)
    (c_give_ashore : PySem.W.codeIn K cd_give_ashore "give_ashore" = true)
    (kp_give_ashore : PySem.W.keepIn K (.ref f_give_ashore) = true)
    (a_let_hours_go_by : PySem.W.nsIn K mainGlobals "let_hours_go_by" = some (some (.ref f_let_hours_go_by)))
    (l_let_hours_go_by : K.lookup f_let_hours_go_by = some ⟨oc_let_hours_go_by, od_let_hours_go_by, .func (PySem.W.fnOf "let_hours_go_by" "let_hours_go_by" (defArgs s_let_hours_go_by) (defBody s_let_hours_go_by) (defScope s_let_hours_go_by) .none kV_let_hours_go_by dc_let_hours_go_by pm_let_hours_go_by an_let_hours_go_by cd_let_hours_go_by ct_let_hours_go_by), sl_let_hours_go_by⟩)
    (c_let_hours_go_by : PySem.W.codeIn K cd_let_hours_go_by "let_hours_go_by" = true)
    (kp_let_hours_go_by : PySem.W.keepIn K (.ref f_let_hours_go_by) = true)
    (a_is_change : PySem.W.nsIn K mainGlobals "is_change" = some (some (.ref f_is_change)))
    (l_is_change : K.lookup f_is_change = some ⟨oc_is_change, od_is_change, .func (PySem.W.fnOf "is_change" "is_change" (defArgs s_is_change) (defBody s_is_change) (defScope s_is_change) .none kV_is_change dc_is_change pm_is_change an_is_change cd_is_change ct_is_change), sl_is_change⟩)
    (c_is_change : PySem.W.codeIn K cd_is_change "is_change" = true)
    (kp_is_change : PySem.W.keepIn K (.ref f_is_change) = true)
    (a_change_state : PySem.W.nsIn K mainGlobals "change_state" = some (some (.ref f_change_state)))
    (l_change_state : K.lookup f_change_state = some ⟨oc_change_state, od_change_state, .func (PySem.W.fnOf "change_state" "change_state" (defArgs s_change_state) (defBody s_change_state) (defScope s_change_state) .none kV_change_state dc_change_state pm_change_state an_change_state cd_change_state ct_change_state), sl_change_state⟩)
    (c_change_state : PySem.W.codeIn K cd_change_state "change_state" = true)
    (kp_change_state : PySem.W.keepIn K (.ref f_change_state) = true)
    (a_make_change : PySem.W.nsIn K mainGlobals "make_change" = some (some (.ref f_make_change)))
    (l_make_change : K.lookup f_make_change = some ⟨oc_make_change, od_make_change, .func (PySem.W.fnOf "make_change" "make_change" (defArgs s_make_change) (defBody s_make_change) (defScope s_make_change) .none kV_make_change dc_make_change pm_make_change an_make_change cd_make_change ct_make_change), sl_make_change⟩)
    (c_make_change : PySem.W.codeIn K cd_make_change "make_change" = true)
    (kp_make_change : PySem.W.keepIn K (.ref f_make_change) = true)
    (a_back : PySem.W.nsIn K mainGlobals "back" = some (some (.ref f_back)))
    (l_back : K.lookup f_back = some ⟨oc_back, od_back, .func (PySem.W.fnOf "back" "back" (defArgs s_back) (defBody s_back) (defScope s_back) .none kV_back dc_back pm_back an_back cd_back ct_back), sl_back⟩)
    (c_back : PySem.W.codeIn K cd_back "back" = true)
    (kp_back : PySem.W.keepIn K (.ref f_back) = true)
    (a_again : PySem.W.nsIn K mainGlobals "again" = some (some (.ref f_again)))
    (l_again : K.lookup f_again = some ⟨oc_again, od_again, .func (PySem.W.fnOf "again" "again" (defArgs s_again) (defBody s_again) (defScope s_again) .none kV_again dc_again pm_again an_again cd_again ct_again), sl_again⟩)
    (c_again : PySem.W.codeIn K cd_again "again" = true)
    (kp_again : PySem.W.keepIn K (.ref f_again) = true)
    (a_tell_state : PySem.W.nsIn K mainGlobals "tell_state" = some (some (.ref f_tell_state)))
    (l_tell_state : K.lookup f_tell_state = some ⟨oc_tell_state, od_tell_state, .func (PySem.W.fnOf "tell_state" "tell_state" (defArgs s_tell_state) (defBody s_tell_state) (defScope s_tell_state) .none kV_tell_state dc_tell_state pm_tell_state an_tell_state cd_tell_state ct_tell_state), sl_tell_state⟩)
    (c_tell_state : PySem.W.codeIn K cd_tell_state "tell_state" = true)
    (kp_tell_state : PySem.W.keepIn K (.ref f_tell_state) = true)
    (a_is_history : PySem.W.nsIn K mainGlobals "is_history" = some (some (.ref f_is_history)))
    (l_is_history : K.lookup f_is_history = some ⟨oc_is_history, od_is_history, .func (PySem.W.fnOf "is_history" "is_history" (defArgs s_is_history) (defBody s_is_history) (defScope s_is_history) .none kV_is_history dc_is_history pm_is_history an_is_history cd_is_history ct_is_history), sl_is_history⟩)
    (c_is_history : PySem.W.codeIn K cd_is_history "is_history" = true)
    (kp_is_history : PySem.W.keepIn K (.ref f_is_history) = true)
    (a_do_history : PySem.W.nsIn K mainGlobals "do_history" = some (some (.ref f_do_history)))
    (l_do_history : K.lookup f_do_history = some ⟨oc_do_history, od_do_history, .func (PySem.W.fnOf "do_history" "do_history" (defArgs s_do_history) (defBody s_do_history) (defScope s_do_history) .none kV_do_history dc_do_history pm_do_history an_do_history cd_do_history ct_do_history), sl_do_history⟩)
    (c_do_history : PySem.W.codeIn K cd_do_history "do_history" = true)
    (kp_do_history : PySem.W.keepIn K (.ref f_do_history) = true)
    (a_lasts : PySem.W.nsIn K mainGlobals "lasts" = some (some (.ref f_lasts)))
    (l_lasts : K.lookup f_lasts = some ⟨oc_lasts, od_lasts, .func (PySem.W.fnOf "lasts" "lasts" (defArgs s_lasts) (defBody s_lasts) (defScope s_lasts) .none kV_lasts dc_lasts pm_lasts an_lasts cd_lasts ct_lasts), sl_lasts⟩)
    (c_lasts : PySem.W.codeIn K cd_lasts "lasts" = true)
    (kp_lasts : PySem.W.keepIn K (.ref f_lasts) = true)
    (a_first_hour : PySem.W.nsIn K mainGlobals "first_hour" = some (some (.ref f_first_hour)))
    (l_first_hour : K.lookup f_first_hour = some ⟨oc_first_hour, od_first_hour, .func (PySem.W.fnOf "first_hour" "first_hour" (defArgs s_first_hour) (defBody s_first_hour) (defScope s_first_hour) .none kV_first_hour dc_first_hour pm_first_hour an_first_hour cd_first_hour ct_first_hour), sl_first_hour⟩)
    (c_first_hour : PySem.W.codeIn K cd_first_hour "first_hour" = true)
    (kp_first_hour : PySem.W.keepIn K (.ref f_first_hour) = true)
    (a_next_go : PySem.W.nsIn K mainGlobals "next_go" = some (some (.ref f_next_go)))
    (l_next_go : K.lookup f_next_go = some ⟨oc_next_go, od_next_go, .func (PySem.W.fnOf "next_go" "next_go" (defArgs s_next_go) (defBody s_next_go) (defScope s_next_go) .none kV_next_go dc_next_go pm_next_go an_next_go cd_next_go ct_next_go), sl_next_go⟩)
    (c_next_go : PySem.W.codeIn K cd_next_go "next_go" = true)
    (kp_next_go : PySem.W.keepIn K (.ref f_next_go) = true)
    (a_ahead : PySem.W.nsIn K mainGlobals "ahead" = some (some (.ref f_ahead)))
    (l_ahead : K.lookup f_ahead = some ⟨oc_ahead, od_ahead, .func (PySem.W.fnOf "ahead" "ahead" (defArgs s_ahead) (defBody s_ahead) (defScope s_ahead) .none kV_ahead dc_ahead pm_ahead an_ahead cd_ahead ct_ahead), sl_ahead⟩)
    (c_ahead : PySem.W.codeIn K cd_ahead "ahead" = true)
    (kp_ahead : PySem.W.keepIn K (.ref f_ahead) = true)
    (a_has_hundredths : PySem.W.nsIn K mainGlobals "has_hundredths" = some (some (.ref f_has_hundredths)))
    (l_has_hundredths : K.lookup f_has_hundredths = some ⟨oc_has_hundredths, od_has_hundredths, .func (PySem.W.fnOf "has_hundredths" "has_hundredths" (defArgs s_has_hundredths) (defBody s_has_hundredths) (defScope s_has_hundredths) .none kV_has_hundredths dc_has_hundredths pm_has_hundredths an_has_hundredths cd_has_hundredths ct_has_hundredths), sl_has_hundredths⟩)
    (c_has_hundredths : PySem.W.codeIn K cd_has_hundredths "has_hundredths" = true)
    (kp_has_hundredths : PySem.W.keepIn K (.ref f_has_hundredths) = true)
    (a_full : PySem.W.nsIn K mainGlobals "full" = some (some (.ref f_full)))
    (l_full : K.lookup f_full = some ⟨oc_full, od_full, .func (PySem.W.fnOf "full" "full" (defArgs s_full) (defBody s_full) (defScope s_full) .none kV_full dc_full pm_full an_full cd_full ct_full), sl_full⟩)
    (c_full : PySem.W.codeIn K cd_full "full" = true)
    (kp_full : PySem.W.keepIn K (.ref f_full) = true)
    (a_flows : PySem.W.nsIn K mainGlobals "flows" = some (some (.ref f_flows)))
    (l_flows : K.lookup f_flows = some ⟨oc_flows, od_flows, .func (PySem.W.fnOf "flows" "flows" (defArgs s_flows) (defBody s_flows) (defScope s_flows) .none kV_flows dc_flows pm_flows an_flows cd_flows ct_flows), sl_flows⟩)
    (c_flows : PySem.W.codeIn K cd_flows "flows" = true)
    (kp_flows : PySem.W.keepIn K (.ref f_flows) = true)
    (a_is_outlook : PySem.W.nsIn K mainGlobals "is_outlook" = some (some (.ref f_is_outlook)))
    (l_is_outlook : K.lookup f_is_outlook = some ⟨oc_is_outlook, od_is_outlook, .func (PySem.W.fnOf "is_outlook" "is_outlook" (defArgs s_is_outlook) (defBody s_is_outlook) (defScope s_is_outlook) .none kV_is_outlook dc_is_outlook pm_is_outlook an_is_outlook cd_is_outlook ct_is_outlook), sl_is_outlook⟩)
    (c_is_outlook : PySem.W.codeIn K cd_is_outlook "is_outlook" = true)
    (kp_is_outlook : PySem.W.keepIn K (.ref f_is_outlook) = true)
    (a_look_ahead : PySem.W.nsIn K mainGlobals "look_ahead" = some (some (.ref f_look_ahead)))
    (l_look_ahead : K.lookup f_look_ahead = some ⟨oc_look_ahead, od_look_ahead, .func (PySem.W.fnOf "look_ahead" "look_ahead" (defArgs s_look_ahead) (defBody s_look_ahead) (defScope s_look_ahead) .none kV_look_ahead dc_look_ahead pm_look_ahead an_look_ahead cd_look_ahead ct_look_ahead), sl_look_ahead⟩)
    (c_look_ahead : PySem.W.codeIn K cd_look_ahead "look_ahead" = true)
    (kp_look_ahead : PySem.W.keepIn K (.ref f_look_ahead) = true)
    (a_may_start : PySem.W.nsIn K mainGlobals "may_start" = some (some (.ref f_may_start)))
    (l_may_start : K.lookup f_may_start = some ⟨oc_may_start, od_may_start, .func (PySem.W.fnOf "may_start" "may_start" (defArgs s_may_start) (defBody s_may_start) (defScope s_may_start) .none kV_may_start dc_may_start pm_may_start an_may_start cd_may_start ct_may_start), sl_may_start⟩)
    (c_may_start : PySem.W.codeIn K cd_may_start "may_start" = true)
    (kp_may_start : PySem.W.keepIn K (.ref f_may_start) = true)
    (a_started : PySem.W.nsIn K mainGlobals "started" = some (some (.ref f_started)))
    (l_started : K.lookup f_started = some ⟨oc_started, od_started, .func (PySem.W.fnOf "started" "started" (defArgs s_started) (defBody s_started) (defScope s_started) .none kV_started dc_started pm_started an_started cd_started ct_started), sl_started⟩)
    (c_started : PySem.W.codeIn K cd_started "started" = true)
    (kp_started : PySem.W.keepIn K (.ref f_started) = true)
    (a_answer_of : PySem.W.nsIn K mainGlobals "answer_of" = some (some (.ref f_answer_of)))
    (l_answer_of : K.lookup f_answer_of = some ⟨oc_answer_of, od_answer_of, .func (PySem.W.fnOf "answer_of" "answer_of" (defArgs s_answer_of) (defBody s_answer_of) (defScope s_answer_of) .none kV_answer_of dc_answer_of pm_answer_of an_answer_of cd_answer_of ct_answer_of), sl_answer_of⟩)
    (c_answer_of : PySem.W.codeIn K cd_answer_of "answer_of" = true)
    (kp_answer_of : PySem.W.keepIn K (.ref f_answer_of) = true)
    (a_answers : PySem.W.nsIn K mainGlobals "answers" = some (some (.ref f_answers)))
    (l_answers : K.lookup f_answers = some ⟨oc_answers, od_answers, .func (PySem.W.fnOf "answers" "answers" (defArgs s_answers) (defBody s_answers) (defScope s_answers) .none kV_answers dc_answers pm_answers an_answers cd_answers ct_answers), sl_answers⟩)
    (c_answers : PySem.W.codeIn K cd_answers "answers" = true)
    (kp_answers : PySem.W.keepIn K (.ref f_answers) = true)
    : ∃ fd : FuncData, (∀ (s : Shared) (us : List Value), us.length = (["calls"] : List Str).length → BindsTo s fd ⟨us, []⟩ ((["calls"] : List Str).zip us)) ∧ ∀ base : Heap, K.In base → base.Ns mainGlobals mg → FnOk P w K mg base CX0 12 fa fd ["calls"] (spAns K) := by
  have e := hfa.symm.trans (PySem.W.mg_of X G a_answers)
  cases e
  obtain ⟨a, e1, e2, T⟩ := all_tx X G no_len no_max no_min no_range k_START k_LEG k_PERSONS k_SET k_BUNKER k_ASHORE k_HOURS k_LASTS k_NEXT_GO k_MAY k_AHEAD k_ROOM k_WANTS k_WHERE k_LOOK k_END k_FULL k_TANKS k_FLOWS k_BACK k_AGAIN k_STATE k_NONE_THERE k_TOO_LITTLE k_NOT_HERE k_SO_ALREADY k_WRONG_NUMBER k_NO_MORE k_NOT_SOON k_NO_ROOM k_TOO_LATE k_MOST_KEPT k_MOST_LEGS k_MOST_LEG_HOURS k_MOST_MILES k_MOST_KNOTS k_LAST_HOUR k_MAKING_MILES k_GREY_MILES k_GREY_KNOTS k_BLACK_MILES k_BLACK_KNOTS k_MOST_PERSONS k_MOST_USES k_MOST_HOURS_AT_ONCE k_MOST_TAKEN_IN k_MOST_HOURS_AHEAD k_MOST_LITRES p1_WIDTHS p2_WIDTHS p3_WIDTHS p4_WIDTHS p5_WIDTHS p6_WIDTHS cC_Sizes pg_Sizes hd_Sizes po_Sizes sa_Sizes mk_Sizes kc_Sizes n_Sizes_fresh n_Sizes_makes n_Sizes_grey n_Sizes_grey_go n_Sizes_black n_Sizes_black_go cC_State pg_State hd_State po_State sa_State mk_State kc_State n_State_sizes n_State_legs n_State_hour n_State_persons n_State_uses n_State_making n_State_letting_grey n_State_letting_black n_State_fresh n_State_grey n_State_black n_State_taken_in n_State_used n_State_grey_gone n_State_black_gone n_State_ashore n_State_lacked cC_Ship pg_Ship hd_Ship po_Ship sa_Ship mk_Ship kc_Ship n_Ship_now n_Ship_earlier n_Ship_undone cC_Leg pg_Leg hd_Leg po_Leg sa_Leg mk_Leg kc_Leg n_Leg_end n_Leg_miles n_Leg_knots a_Sizes_init i_Sizes_init l_Sizes_init c_Sizes_init kp_Sizes_init a_State_init i_State_init l_State_init c_State_init kp_State_init a_copy_of l_copy_of c_copy_of kp_copy_of a_switches l_switches c_switches kp_switches a_what_is_set l_what_is_set c_what_is_set kp_what_is_set a_wanted l_wanted c_wanted kp_wanted a_Ship_init i_Ship_init l_Ship_init c_Ship_init kp_Ship_init a_Ship_keep i_Ship_keep l_Ship_keep c_Ship_keep kp_Ship_keep a_Ship_take_back i_Ship_take_back l_Ship_take_back c_Ship_take_back kp_Ship_take_back a_Ship_do_again i_Ship_do_again l_Ship_do_again c_Ship_do_again kp_Ship_do_again a_Leg_init i_Leg_init l_Leg_init c_Leg_init kp_Leg_init a_way_end l_way_end c_way_end kp_way_end a_leg_in l_leg_in c_leg_in kp_leg_in a_in_port l_in_port c_in_port kp_in_port a_may_make l_may_make c_may_make kp_may_make a_may_let_grey l_may_let_grey c_may_let_grey kp_may_let_grey a_may_let_black l_may_let_black c_may_let_black kp_may_let_black a_grey_let_go l_grey_let_go c_grey_let_go kp_grey_let_go a_black_let_go l_black_let_go c_black_let_go kp_black_let_go a_water_made l_water_made c_water_made kp_water_made a_grey_part l_grey_part c_grey_part kp_grey_part a_water_used l_water_used c_water_used kp_water_used a_let_go l_let_go c_let_go kp_let_go a_make_water l_make_water c_make_water kp_make_water a_use_water l_use_water c_use_water kp_use_water a_pass_hour l_pass_hour c_pass_hour kp_pass_hour a_pass_hours l_pass_hours c_pass_hours kp_pass_hours a_may_now l_may_now c_may_now kp_may_now a_room l_room c_room kp_room a_wants l_wants c_wants kp_wants a_where l_where c_where kp_where a_look l_look c_look kp_look a_end l_end c_end kp_end a_tanks l_tanks c_tanks kp_tanks a_sums l_sums c_sums kp_sums a_ask l_ask c_ask kp_ask a_add_leg l_add_leg c_add_leg kp_add_leg a_set_persons l_set_persons c_set_persons kp_set_persons a_set_switches l_set_switches c_set_switches kp_set_switches a_bunker l_bunker c_bunker kp_bunker a_give_ashore l_give_ashore c_give_ashore kp_give_ashore a_let_hours_go_by l_let_hours_go_by c_let_hours_go_by kp_let_hours_go_by a_is_change l_is_change c_is_change kp_is_change a_change_state l_change_state c_change_state kp_change_state a_make_change l_make_change c_make_change kp_make_change a_back l_back c_back kp_back a_again l_again c_again kp_again a_tell_state l_tell_state c_tell_state kp_tell_state a_is_history l_is_history c_is_history kp_is_history a_do_history l_do_history c_do_history kp_do_history a_lasts l_lasts c_lasts kp_lasts a_first_hour l_first_hour c_first_hour kp_first_hour a_next_go l_next_go c_next_go kp_next_go a_ahead l_ahead c_ahead kp_ahead a_has_hundredths l_has_hundredths c_has_hundredths kp_has_hundredths a_full l_full c_full kp_full a_flows l_flows c_flows kp_flows a_is_outlook l_is_outlook c_is_outlook kp_is_outlook a_look_ahead l_look_ahead c_look_ahead kp_look_ahead a_may_start l_may_start c_may_start kp_may_start a_started l_started c_started kp_started a_answer_of l_answer_of c_answer_of kp_answer_of a_answers l_answers c_answers kp_answers
  refine ⟨a.d_answers, fun s us hu => ?_, fun base _ _ => ?_⟩
  · rw [e2]
    exact match us, hu with | [_], _ => .of_eq rfl
  · rw [← e1]
    exact ok_answers T
end Sp
end
set_option Elab.async false
set_option linter.all false
def PySem.W.Fast.tw2671661563995680929 : Unit := ()
def PySem.W.Fast.tw1475803123662809092 : Unit := ()
def PySem.W.Fast.tw9074036099619225221 : Unit := ()
def PySem.W.Fast.tw9169933200995823237 : Unit := ()
def PySem.W.Fast.tw6552809486542789898 : Unit := ()
def PySem.W.Fast.tw14484004988961953836 : Unit := ()
def PySem.W.Fast.tw727678247039358540 : Unit := ()
def PySem.W.Fast.tw9567178513594697998 : Unit := ()
def PySem.W.Fast.tw3150502676495092590 : Unit := ()
def PySem.W.Fast.tw1023737592180996527 : Unit := ()
def PySem.W.Fast.tw9473940392698184726 : Unit := ()
def PySem.W.Fast.tw2397170052231679671 : Unit := ()
def PySem.W.Fast.tw16686141949014506780 : Unit := ()
def PySem.W.Fast.tw4973528789411204735 : Unit := ()
def PySem.W.Fast.tw5521803009631502276 : Unit := ()
open PySem PySem.W PyProof.Rows
set_option maxRecDepth 100000 in
set_option maxHeartbeats 0 in
theorem PySem.Challenge.cw_shiptanks_s01_answers_holds : PySem.Challenge.rw_shiptanks_s01_answers.Holds := by
  w_on; k_headS; (case hw => exact ⟨[.list [.int 0, .int 1, .int 1, .int 1, .int 1, .int 1, .int 1]], by decide +kernel, by decide +kernel⟩)
  k_fillS
  refine L2.walk_specK (r := PySem.Challenge.rw_shiptanks_s01_answers) (k := 12) (CX := L2.CX0) (ps := ["calls"]) (sp := Sp.spAns) (by decide +kernel) rfl rfl ⟨rfl, by decide, by decide⟩ (fun w h Y => PySem.W.kIn_of Y) ?F ?S (fun _ _ _ _ z => z)
  case F =>
    intro w mg fa h Y KX G hmg
    refine' Sp.main KX G hmg ?no_len ?no_max ?no_min ?no_range ?k_START ?k_LEG ?k_PERSONS ?k_SET ?k_BUNKER ?k_ASHORE ?k_HOURS ?k_LASTS ?k_NEXT_GO ?k_MAY ?k_AHEAD ?k_ROOM ?k_WANTS ?k_WHERE ?k_LOOK ?k_END ?k_FULL ?k_TANKS ?k_FLOWS ?k_BACK ?k_AGAIN ?k_STATE ?k_NONE_THERE ?k_TOO_LITTLE ?k_NOT_HERE ?k_SO_ALREADY ?k_WRONG_NUMBER ?k_NO_MORE ?k_NOT_SOON ?k_NO_ROOM ?k_TOO_LATE ?k_MOST_KEPT ?k_MOST_LEGS ?k_MOST_LEG_HOURS ?k_MOST_MILES ?k_MOST_KNOTS ?k_LAST_HOUR ?k_MAKING_MILES ?k_GREY_MILES ?k_GREY_KNOTS ?k_BLACK_MILES ?k_BLACK_KNOTS ?k_MOST_PERSONS ?k_MOST_USES ?k_MOST_HOURS_AT_ONCE ?k_MOST_TAKEN_IN ?k_MOST_HOURS_AHEAD ?k_MOST_LITRES ?p1_WIDTHS ?p2_WIDTHS ?p3_WIDTHS ?p4_WIDTHS ?p5_WIDTHS ?p6_WIDTHS ?cC_Sizes ?pg_Sizes ?hd_Sizes ?po_Sizes ?sa_Sizes ?mk_Sizes ?kc_Sizes ?n_Sizes_fresh ?n_Sizes_makes ?n_Sizes_grey ?n_Sizes_grey_go ?n_Sizes_black ?n_Sizes_black_go ?cC_State ?pg_State ?hd_State ?po_State ?sa_State ?mk_State ?kc_State ?n_State_sizes ?n_State_legs ?n_State_hour ?n_State_persons ?n_State_uses ?n_State_making ?n_State_letting_grey ?n_State_letting_black ?n_State_fresh ?n_State_grey ?n_State_black ?n_State_taken_in ?n_State_used ?n_State_grey_gone ?n_State_black_gone ?n_State_ashore ?n_State_lacked ?cC_Ship ?pg_Ship ?hd_Ship ?po_Ship ?sa_Ship ?mk_Ship ?kc_Ship ?n_Ship_now ?n_Ship_earlier ?n_Ship_undone ?cC_Leg ?pg_Leg ?hd_Leg ?po_Leg ?sa_Leg ?mk_Leg ?kc_Leg ?n_Leg_end ?n_Leg_miles ?n_Leg_knots ?a_Sizes_init ?i_Sizes_init ?l_Sizes_init ?c_Sizes_init ?kp_Sizes_init ?a_State_init ?i_State_init ?l_State_init ?c_State_init ?kp_State_init ?a_copy_of ?l_copy_of ?c_copy_of ?kp_copy_of ?a_switches ?l_switches ?c_switches ?kp_switches ?a_what_is_set ?l_what_is_set ?c_what_is_set ?kp_what_is_set ?a_wanted ?l_wanted ?c_wanted ?kp_wanted ?a_Ship_init ?i_Ship_init ?l_Ship_init ?c_Ship_init ?kp_Ship_init ?a_Ship_keep ?i_Ship_keep ?l_Ship_keep ?c_Ship_keep ?kp_Ship_keep ?a_Ship_take_back ?i_Ship_take_back ?l_Ship_take_back ?c_Ship_take_back ?kp_Ship_take_back ?a_Ship_do_again ?i_Ship_do_again ?l_Ship_do_again ?c_Ship_do_again ?kp_Ship_do_again ?a_Leg_init ?i_Leg_init ?l_Leg_init ?c_Leg_init ?kp_Leg_init ?a_way_end ?l_way_end ?c_way_end ?kp_way_end ?a_leg_in ?l_leg_in ?c_leg_in ?kp_leg_in ?a_in_port ?l_in_port ?c_in_port ?kp_in_port ?a_may_make ?l_may_make ?c_may_make ?kp_may_make ?a_may_let_grey ?l_may_let_grey ?c_may_let_grey ?kp_may_let_grey ?a_may_let_black ?l_may_let_black ?c_may_let_black ?kp_may_let_black ?a_grey_let_go ?l_grey_let_go ?c_grey_let_go ?kp_grey_let_go ?a_black_let_go ?l_black_let_go ?c_black_let_go ?kp_black_let_go ?a_water_made ?l_water_made ?c_water_made ?kp_water_made ?a_grey_part ?l_grey_part ?c_grey_part ?kp_grey_part ?a_water_used ?l_water_used ?c_water_used ?kp_water_used ?a_let_go ?l_let_go ?c_let_go ?kp_let_go ?a_make_water ?l_make_water ?c_make_water ?kp_make_water ?a_use_water ?l_use_water ?c_use_water ?kp_use_water ?a_pass_hour ?l_pass_hour ?c_pass_hour ?kp_pass_hour ?a_pass_hours ?l_pass_hours ?c_pass_hours ?kp_pass_hours ?a_may_now ?l_may_now ?c_may_now ?kp_may_now ?a_room ?l_room ?c_room ?kp_room ?a_wants ?l_wants ?c_wants ?kp_wants ?a_where ?l_where ?c_where ?kp_where ?a_look ?l_look ?c_look ?kp_look ?a_end ?l_end ?c_end ?kp_end ?a_tanks ?l_tanks ?c_tanks ?kp_tanks ?a_sums ?l_sums ?c_sums ?kp_sums ?a_ask ?l_ask ?c_ask ?kp_ask ?a_add_leg ?l_add_leg ?c_add_leg ?kp_add_leg ?a_set_persons ?l_set_persons ?c_set_persons ?kp_set_persons ?a_set_switches ?l_set_switches ?c_set_switches ?kp_set_switches ?a_bunker ?l_bunker ?c_bunker ?kp_bunker ?a_give_ashore ?l_give_ashore ?c_give_ashore ?kp_give_ashore ?a_let_hours_go_by ?l_let_hours_go_by ?c_let_hours_go_by ?kp_let_hours_go_by ?a_is_change ?l_is_change ?c_is_change ?kp_is_change ?a_change_state ?l_change_state ?c_change_state ?kp_change_state ?a_make_change ?l_make_change ?c_make_change ?kp_make_change ?a_back ?l_back ?c_back ?kp_back ?a_again ?l_again ?c_again ?kp_again ?a_tell_state ?l_tell_state ?c_tell_state ?kp_tell_state ?a_is_history ?l_is_history ?c_is_history ?kp_is_history ?a_do_history ?l_do_history ?c_do_history ?kp_do_history ?a_lasts ?l_lasts ?c_lasts ?kp_lasts ?a_first_hour ?l_first_hour ?c_first_hour ?kp_first_hour ?a_next_go ?l_next_go ?c_next_go ?kp_next_go ?a_ahead ?l_ahead ?c_ahead ?kp_ahead ?a_has_hundredths ?l_has_hundredths ?c_has_hundredths ?kp_has_hundredths ?a_full ?l_full ?c_full ?kp_full ?a_flows ?l_flows ?c_flows ?kp_flows ?a_is_outlook ?l_is_outlook ?c_is_outlook ?kp_is_outlook ?a_look_ahead ?l_look_ahead ?c_look_ahead ?kp_look_ahead ?a_may_start ?l_may_start ?c_may_start ?kp_may_start ?a_started ?l_started ?c_started ?kp_started ?a_answer_of ?l_answer_of ?c_answer_of ?kp_answer_of ?a_answers ?l_answers ?c_answers ?kp_answers
    (case no_len => k_is)
    (case no_max => k_is)
    (case no_min => k_is)
    (case no_range => k_is)
    (case k_START => k_is)
    (case k_LEG => k_is)
    (case k_PERSONS => k_is)
    (case k_SET => k_is)
    (case k_BUNKER => k_is)
    (case k_ASHORE => k_is)
    (case k_HOURS => k_is)
    (case k_LASTS => k_is)
    (case k_NEXT_GO => k_is)
    (case k_MAY => k_is)
    (case k_AHEAD => k_is)
    (case k_ROOM => k_is)
    (case k_WANTS => k_is)
    (case k_WHERE => k_is)
    (case k_LOOK => k_is)
    (case k_END => k_is)
    (case k_FULL => k_is)
    (case k_TANKS => k_is)
    (case k_FLOWS => k_is)
    (case k_BACK => k_is)
    (case k_AGAIN => k_is)
    (case k_STATE => k_is)
    (case k_NONE_THERE => k_is)
    (case k_TOO_LITTLE => k_is)
    (case k_NOT_HERE => k_is)
    (case k_SO_ALREADY => k_is)
    (case k_WRONG_NUMBER => k_is)
    (case k_NO_MORE => k_is)
    (case k_NOT_SOON => k_is)
    (case k_NO_ROOM => k_is)
    (case k_TOO_LATE => k_is)
    (case k_MOST_KEPT => k_is)
    (case k_MOST_LEGS => k_is)
    (case k_MOST_LEG_HOURS => k_is)
    (case k_MOST_MILES => k_is)
    (case k_MOST_KNOTS => k_is)
    (case k_LAST_HOUR => k_is)
    (case k_MAKING_MILES => k_is)
    (case k_GREY_MILES => k_is)
    (case k_GREY_KNOTS => k_is)
    (case k_BLACK_MILES => k_is)
    (case k_BLACK_KNOTS => k_is)
    (case k_MOST_PERSONS => k_is)
    (case k_MOST_USES => k_is)
    (case k_MOST_HOURS_AT_ONCE => k_is)
    (case k_MOST_TAKEN_IN => k_is)
    (case k_MOST_HOURS_AHEAD => k_is)
    (case k_MOST_LITRES => k_is)
    (case p1_WIDTHS => k_is)
    (case p2_WIDTHS => k_is)
    (case p3_WIDTHS => rfl)
    (case p4_WIDTHS => rfl)
    (case p5_WIDTHS => (show 23 ≤ 16777216; decide))
    (case p6_WIDTHS => exact (.cons ⟨_, rfl⟩ (.cons ⟨_, rfl⟩ (.cons ⟨_, rfl⟩ (.cons ⟨_, rfl⟩ (.cons ⟨_, rfl⟩ (.cons ⟨_, rfl⟩ (.cons ⟨_, rfl⟩ (.cons ⟨_, rfl⟩ (.cons ⟨_, rfl⟩ (.cons ⟨_, rfl⟩ (.cons ⟨_, rfl⟩ (.cons ⟨_, rfl⟩ (.cons ⟨_, rfl⟩ (.cons ⟨_, rfl⟩ (.cons ⟨_, rfl⟩ (.cons ⟨_, rfl⟩ (.cons ⟨_, rfl⟩ (.cons ⟨_, rfl⟩ (.cons ⟨_, rfl⟩ (.cons ⟨_, rfl⟩ (.cons ⟨_, rfl⟩ (.cons ⟨_, rfl⟩ (.cons ⟨_, rfl⟩ .nil))))))))))))))))))))))))
    (case cC_Sizes => k_is)
    (case pg_Sizes => k_is)
    (case hd_Sizes => k_is)
    (case po_Sizes => k_is)
    (case sa_Sizes => k_is)
    (case mk_Sizes => k_is)
    (case kc_Sizes => k_is)
    (case n_Sizes_fresh => k_is)
    (case n_Sizes_makes => k_is)
    (case n_Sizes_grey => k_is)
    (case n_Sizes_grey_go => k_is)
    (case n_Sizes_black => k_is)
    (case n_Sizes_black_go => k_is)
    (case cC_State => k_is)
    (case pg_State => k_is)
    (case hd_State => k_is)
    (case po_State => k_is)
    (case sa_State => k_is)
    (case mk_State => k_is)
    (case kc_State => k_is)
    (case n_State_sizes => k_is)
    (case n_State_legs => k_is)
    (case n_State_hour => k_is)
    (case n_State_persons => k_is)
    (case n_State_uses => k_is)
    (case n_State_making => k_is)
    (case n_State_letting_grey => k_is)
    (case n_State_letting_black => k_is)
    (case n_State_fresh => k_is)
    (case n_State_grey => k_is)
    (case n_State_black => k_is)
    (case n_State_taken_in => k_is)
    (case n_State_used => k_is)
    (case n_State_grey_gone => k_is)
    (case n_State_black_gone => k_is)
    (case n_State_ashore => k_is)
    (case n_State_lacked => k_is)
    (case cC_Ship => k_is)
    (case pg_Ship => k_is)
    (case hd_Ship => k_is)
    (case po_Ship => k_is)
    (case sa_Ship => k_is)
    (case mk_Ship => k_is)
    (case kc_Ship => k_is)
    (case n_Ship_now => k_is)
    (case n_Ship_earlier => k_is)
    (case n_Ship_undone => k_is)
    (case cC_Leg => k_is)
    (case pg_Leg => k_is)
    (case hd_Leg => k_is)
    (case po_Leg => k_is)
    (case sa_Leg => k_is)
    (case mk_Leg => k_is)
    (case kc_Leg => k_is)
    (case n_Leg_end => k_is)
    (case n_Leg_miles => k_is)
    (case n_Leg_knots => k_is)
    (case a_Sizes_init => k_is)
    (case i_Sizes_init => k_is)
    (case l_Sizes_init => k_is)
    (case c_Sizes_init => k_is)
    (case kp_Sizes_init => k_is)
    (case a_State_init => k_is)
    (case i_State_init => k_is)
    (case l_State_init => k_is)
    (case c_State_init => k_is)
    (case kp_State_init => k_is)
    (case a_copy_of => k_is)
    (case l_copy_of => k_is)
    (case c_copy_of => k_is)
    (case kp_copy_of => k_is)
    (case a_switches => k_is)
    (case l_switches => k_is)
    (case c_switches => k_is)
    (case kp_switches => k_is)
    (case a_what_is_set => k_is)
    (case l_what_is_set => k_is)
    (case c_what_is_set => k_is)
    (case kp_what_is_set => k_is)
    (case a_wanted => k_is)
    (case l_wanted => k_is)
    (case c_wanted => k_is)
    (case kp_wanted => k_is)
    (case a_Ship_init => k_is)
    (case i_Ship_init => k_is)
    (case l_Ship_init => k_is)
    (case c_Ship_init => k_is)
    (case kp_Ship_init => k_is)
    (case a_Ship_keep => k_is)
    (case i_Ship_keep => k_is)
    (case l_Ship_keep => k_is)
    (case c_Ship_keep => k_is)
    (case kp_Ship_keep => k_is)
    (case a_Ship_take_back => k_is)
    (case i_Ship_take_back => k_is)
    (case l_Ship_take_back => k_is)
    (case c_Ship_take_back => k_is)
    (case kp_Ship_take_back => k_is)
    (case a_Ship_do_again => k_is)
    (case i_Ship_do_again => k_is)
    (case l_Ship_do_again => k_is)
    (case c_Ship_do_again => k_is)
    (case kp_Ship_do_again => k_is)
    (case a_Leg_init => k_is)
    (case i_Leg_init => k_is)
    (case l_Leg_init => k_is)
    (case c_Leg_init => k_is)
    (case kp_Leg_init => k_is)
    (case a_way_end => k_is)
    (case l_way_end => k_is)
    (case c_way_end => k_is)
    (case kp_way_end => k_is)
    (case a_leg_in => k_is)
    (case l_leg_in => k_is)
    (case c_leg_in => k_is)
    (case kp_leg_in => k_is)
    (case a_in_port => k_is)
    (case l_in_port => k_is)
    (case c_in_port => k_is)
    (case kp_in_port => k_is)
    (case a_may_make => k_is)
    (case l_may_make => k_is)
    (case c_may_make => k_is)
    (case kp_may_make => k_is)
    (case a_may_let_grey => k_is)
    (case l_may_let_grey => k_is)
    (case c_may_let_grey => k_is)
    (case kp_may_let_grey => k_is)
    (case a_may_let_black => k_is)
    (case l_may_let_black => k_is)
    (case c_may_let_black => k_is)
    (case kp_may_let_black => k_is)
    (case a_grey_let_go => k_is)
    (case l_grey_let_go => k_is)
    (case c_grey_let_go => k_is)
    (case kp_grey_let_go => k_is)
    (case a_black_let_go => k_is)
    (case l_black_let_go => k_is)
    (case c_black_let_go => k_is)
    (case kp_black_let_go => k_is)
    (case a_water_made => k_is)
    (case l_water_made => k_is)
    (case c_water_made => k_is)
    (case kp_water_made => k_is)
    (case a_grey_part => k_is)
    (case l_grey_part => k_is)
    (case c_grey_part => k_is)
    (case kp_grey_part => k_is)
    (case a_water_used => k_is)
    (case l_water_used => k_is)
    (case c_water_used => k_is)
    (case kp_water_used => k_is)
    (case a_let_go => k_is)
    (case l_let_go => k_is)
    (case c_let_go => k_is)
    (case kp_let_go => k_is)
    (case a_make_water => k_is)
    (case l_make_water => k_is)
    (case c_make_water => k_is)
    (case kp_make_water => k_is)
    (case a_use_water => k_is)
    (case l_use_water => k_is)
    (case c_use_water => k_is)
    (case kp_use_water => k_is)
    (case a_pass_hour => k_is)
    (case l_pass_hour => k_is)
    (case c_pass_hour => k_is)
    (case kp_pass_hour => k_is)
    (case a_pass_hours => k_is)
    (case l_pass_hours => k_is)
    (case c_pass_hours => k_is)
    (case kp_pass_hours => k_is)
    (case a_may_now => k_is)
    (case l_may_now => k_is)
    (case c_may_now => k_is)
    (case kp_may_now => k_is)
    (case a_room => k_is)
    (case l_room => k_is)
    (case c_room => k_is)
    (case kp_room => k_is)
    (case a_wants => k_is)
    (case l_wants => k_is)
    (case c_wants => k_is)
    (case kp_wants => k_is)
    (case a_where => k_is)
    (case l_where => k_is)
    (case c_where => k_is)
    (case kp_where => k_is)
    (case a_look => k_is)
    (case l_look => k_is)
    (case c_look => k_is)
    (case kp_look => k_is)
    (case a_end => k_is)
    (case l_end => k_is)
    (case c_end => k_is)
    (case kp_end => k_is)
    (case a_tanks => k_is)
    (case l_tanks => k_is)
    (case c_tanks => k_is)
    (case kp_tanks => k_is)
    (case a_sums => k_is)
    (case l_sums => k_is)
    (case c_sums => k_is)
    (case kp_sums => k_is)
    (case a_ask => k_is)
    (case l_ask => k_is)
    (case c_ask => k_is)
    (case kp_ask => k_is)
    (case a_add_leg => k_is)
    (case l_add_leg => k_is)
    (case c_add_leg => k_is)
    (case kp_add_leg => k_is)
    (case a_set_persons => k_is)
    (case l_set_persons => k_is)
    (case c_set_persons => k_is)
    (case kp_set_persons => k_is)
    (case a_set_switches => k_is)
    (case l_set_switches => k_is)
    (case c_set_switches => k_is)
    (case kp_set_switches => k_is)
    (case a_bunker => k_is)
    (case l_bunker => k_is)
    (case c_bunker => k_is)
    (case kp_bunker => k_is)
    (case a_give_ashore => k_is)
    (case l_give_ashore => k_is)
    (case c_give_ashore => k_is)
    (case kp_give_ashore => k_is)
    (case a_let_hours_go_by => k_is)
    (case l_let_hours_go_by => k_is)
    (case c_let_hours_go_by => k_is)
    (case kp_let_hours_go_by => k_is)
    (case a_is_change => k_is)
    (case l_is_change => k_is)
    (case c_is_change => k_is)
    (case kp_is_change => k_is)
    (case a_change_state => k_is)
    (case l_change_state => k_is)
    (case c_change_state => k_is)
    (case kp_change_state => k_is)
    (case a_make_change => k_is)
    (case l_make_change => k_is)
    (case c_make_change => k_is)
    (case kp_make_change => k_is)
    (case a_back => k_is)
    (case l_back => k_is)
    (case c_back => k_is)
    (case kp_back => k_is)
    (case a_again => k_is)
    (case l_again => k_is)
    (case c_again => k_is)
    (case kp_again => k_is)
    (case a_tell_state => k_is)
    (case l_tell_state => k_is)
    (case c_tell_state => k_is)
    (case kp_tell_state => k_is)
    (case a_is_history => k_is)
    (case l_is_history => k_is)
    (case c_is_history => k_is)
    (case kp_is_history => k_is)
    (case a_do_history => k_is)
    (case l_do_history => k_is)
    (case c_do_history => k_is)
    (case kp_do_history => k_is)
    (case a_lasts => k_is)
    (case l_lasts => k_is)
    (case c_lasts => k_is)
    (case kp_lasts => k_is)
    (case a_first_hour => k_is)
    (case l_first_hour => k_is)
    (case c_first_hour => k_is)
    (case kp_first_hour => k_is)
    (case a_next_go => k_is)
    (case l_next_go => k_is)
    (case c_next_go => k_is)
    (case kp_next_go => k_is)
    (case a_ahead => k_is)
    (case l_ahead => k_is)
    (case c_ahead => k_is)
    (case kp_ahead => k_is)
    (case a_has_hundredths => k_is)
    (case l_has_hundredths => k_is)
    (case c_has_hundredths => k_is)
    (case kp_has_hundredths => k_is)
    (case a_full => k_is)
    (case l_full => k_is)
    (case c_full => k_is)
    (case kp_full => k_is)
    (case a_flows => k_is)
    (case l_flows => k_is)
    (case c_flows => k_is)
    (case kp_flows => k_is)
    (case a_is_outlook => k_is)
    (case l_is_outlook => k_is)
    (case c_is_outlook => k_is)
    (case kp_is_outlook => k_is)
    (case a_look_ahead => k_is)
    (case l_look_ahead => k_is)
    (case c_look_ahead => k_is)
    (case kp_look_ahead => k_is)
    (case a_may_start => k_is)
    (case l_may_start => k_is)
    (case c_may_start => k_is)
    (case kp_may_start => k_is)
    (case a_started => k_is)
    (case l_started => k_is)
    (case c_started => k_is)
    (case kp_started => k_is)
    (case a_answer_of => k_is)
    (case l_answer_of => k_is)
    (case c_answer_of => k_is)
    (case kp_answer_of => k_is)
    (case a_answers => k_is)
    (case l_answers => k_is)
    (case c_answers => k_is)
    (case kp_answers => k_is)

  case S =>
    intro K H xs a hO hwi hask hx
    cases hx with
    | cons h1 h2 =>
      cases h2
      cases h1 with
      | lst hs ha =>
        have e := L2.ints_dw a.1 _ ha
        subst e
        have q : ((Codec.inLen 0 8000 a.1 && a.1.all (Codec.inInt 0 4294967295)) && true) = true := hwi
        rw [Bool.and_eq_true, Bool.and_eq_true] at q
        exact ⟨_, a.1, rfl, hs, (Codec.inNat_iff.mp q.1.1).2, hask, fun H' p hp => .lst (L2.SqL.of hp) (L2.dw_ints _)⟩
#print axioms PySem.Challenge.cw_shiptanks_s01_answers_holds
