import PyProof.Rows.All
import Wide.All
import OpenK.AllK
import Wide.FinOn
import PyProof.EqAt
import PyProof.EqKinds
import PyProof.TupleCall
import KE.BitLaws
import Open.SpecLaws
import KE.OsHead
import KE.OsGo
import PySem.Challenge.RW_longestrun_s03_tt_run
set_option Elab.async false
set_option linter.all false
set_option maxRecDepth 100000
set_option maxHeartbeats 2000000
set_option Elab.async false
set_option linter.all false
set_option maxRecDepth 100000
/-! THE HAND LAYER, for ints, bools, texts, own classes, lists, tuples, dicts, comprehensions, walks over dicts, enumerate, zip, reversed, texts, calls, loops. Paste it whole ahead of your own text; what your proof does not reach may be deleted. -/
namespace L2
open PySem PySem.Spec PyProof.Rows

/-- a key: an int or a str -/
abbrev Key := Sum Int Str
def keyIs : Key → Value → Bool
  | .inl k, v => Value.isInt k v
  | .inr x, v => Value.isStrOf x v
def keyH (w : World) : Key → Int
  | .inl k => hashInt k
  | .inr x => hashStr w x
theorem keyIs_shape : ∀ {k : Key} {v : Value}, keyIs k v = true → (∃ i t, k = Sum.inl i ∧ v = Value.int i t) ∨ (∃ x t, k = Sum.inr x ∧ v = Value.str x t)
  | .inl i, v, h => by
    obtain ⟨t, e⟩ := Value.isInt_shape (k := i) (v := v) h
    exact .inl ⟨i, t, rfl, e⟩
  | .inr x, v, h => by
    obtain ⟨t, e⟩ := Value.isStrOf_shape (x := x) (v := v) h
    exact .inr ⟨x, t, rfl, e⟩
theorem key_ll (a b : Int) : decide ((Sum.inl a : Key) = Sum.inl b) = (a == b) := by
  by_cases e : a = b
  · subst e; simp
  · have h : ¬ (Sum.inl a : Key) = Sum.inl b := fun q => e (Sum.inl.inj q)
    rw [decide_eq_false h]
    exact (beq_eq_false_iff_ne.mpr e).symm
theorem key_rr (a b : Str) : decide ((Sum.inr a : Key) = Sum.inr b) = decide (a = b) := by
  by_cases e : a = b
  · subst e; simp
  · have h : ¬ (Sum.inr a : Key) = Sum.inr b := fun q => e (Sum.inr.inj q)
    rw [decide_eq_false h, decide_eq_false e]
theorem key_lr (a : Int) (b : Str) : decide ((Sum.inl a : Key) = Sum.inr b) = false := decide_eq_false (fun q => nomatch q)
theorem key_rl (a : Str) (b : Int) : decide ((Sum.inr a : Key) = Sum.inl b) = false := decide_eq_false (fun q => nomatch q)

def mixKind (prog : Program) (w : World) : PySem.KeyKind prog w Key where
  is := keyIs
  hash := keyH w
  inj := fun v a b ha hb => by
    rcases keyIs_shape ha with ⟨i, t, rfl, rfl⟩ | ⟨x, t, rfl, rfl⟩
    · rcases keyIs_shape hb with ⟨j, u, rfl, e⟩ | ⟨y, u, rfl, e⟩
      · injection e with e1 _; rw [e1]
      · exact nomatch e
    · rcases keyIs_shape hb with ⟨j, u, rfl, e⟩ | ⟨y, u, rfl, e⟩
      · exact nomatch e
      · injection e with e1 _; rw [e1]
  byValue := fun k v h => by
    rcases keyIs_shape h with ⟨i, t, rfl, rfl⟩ | ⟨x, t, rfl, rfl⟩ <;> rfl
  pyHash := fun hv h => by
    rcases keyIs_shape hv with ⟨i, t, rfl, rfl⟩ | ⟨x, t, rfl, rfl⟩
    · exact wpAny_pyHash_int h
    · exact wpAny_pyHash_str h
  eqBool := fun hu hv h => by
    rcases keyIs_shape hu with ⟨i, t, rfl, rfl⟩ | ⟨x, t, rfl, rfl⟩
    · rcases keyIs_shape hv with ⟨j, u, rfl, rfl⟩ | ⟨y, u, rfl, rfl⟩
      · rw [key_ll] at h; exact wpAny_eqBool_int h
      · rw [key_lr] at h; exact SeqAt.EqAt.int_str i t y u _ _ _ _ h
    · rcases keyIs_shape hv with ⟨j, u, rfl, rfl⟩ | ⟨y, u, rfl, rfl⟩
      · rw [key_rl] at h; exact SeqAt.EqAt.str_int x t j u _ _ _ _ h
      · rw [key_rr] at h; exact wpAny_eqBool_str h
  «strs» := fun k x t v h => by
    rcases keyIs_shape h with ⟨i, u, rfl, e⟩ | ⟨y, u, rfl, e⟩
    · exact nomatch e
    · injection e with e1 _
      subst e1
      cases v <;> rfl

end L2

namespace L2
open PySem PySem.Spec PyProof.Rows

/-- a value, without the heap -/
inductive V where
  | non | bl (b : Bool) | int (i : Int) | str (x : Str) | byt (b : Array UInt8) | flt (b : UInt64) | ref (a : Addr) | ty (n : String)
  deriving DecidableEq

def RelV : V → Value → Prop
  | .non, u => u = Value.none
  | .bl b, u => u = Value.bool b
  | .int i, u => ∃ t, u = Value.int i t
  | .str x, u => ∃ t, u = Value.str x t
  | .byt b, u => ∃ t, u = Value.bytes b t
  | .flt b, u => ∃ t, u = Value.float b t
  | .ref a, u => u = Value.ref a
  | .ty n, u => u = Value.type n

abbrev Vals : List V → List Value → Prop := Paired RelV
theorem Vals.length {xs : List V} {us : List Value} (r : Vals xs us) : xs.length = us.length := Paired.length r
theorem Vals.get : ∀ {xs : List V} {us : List Value} {i : Nat} {x : V}, Vals xs us → xs[i]? = some x → ∃ u, us[i]? = some u ∧ RelV x u
  | _, _, _, _, .nil, e => by simp at e
  | _, _, 0, _, .cons r _, e => by simp at e; subst e; exact ⟨_, rfl, r⟩
  | _, _, i + 1, x, .cons _ t, e => by
    obtain ⟨u, h1, h2⟩ := Vals.get (i := i) (x := x) t (by simpa using e)
    exact ⟨u, by simpa using h1, h2⟩
theorem Vals.append : ∀ {xs ys : List V} {us ws : List Value}, Vals xs us → Vals ys ws → Vals (xs ++ ys) (us ++ ws)
  | _, _, _, _, .nil, s => s
  | _, _, _, _, .cons r t, s => .cons r (Vals.append t s)
def RelO : Option V → Option Value → Prop
  | some v, some u => RelV v u
  | none, none => True
  | _, _ => False
def KV {κ : Type} : List (κ × V) → List (κ × Value) → Prop := Paired fun (p : κ × V) (q : κ × Value) => p.1 = q.1 ∧ RelV p.2 q.2

/-- a key of a dict (00_mix): an int or a text -/
def kV : Key → V
  | .inl i => .int i
  | .inr x => .str x

/-- what stands at a tracked address -/
inductive HO where
  /-- a list -/
  | lst (xs : List V)
  /-- a tuple (never changes) -/
  | tup (xs : List V)
  /-- a dict whose keys are ints and texts; one whose keys are tuples of ints and texts (the empty one is both) -/
  | dK (kvs : List (Key × V)) | dT (kvs : List (List Key × V))
  /-- a set of ints: its members, its size -/
  | set (S : Int → Bool) (n : Nat)
  /-- an instance of the class at C, its dict at dx, its attributes -/
  | ins (C dx : Addr) (fs : List (Str × V))
  /-- the dict of the instance at x -/
  | own (x : Addr)
  /-- the dict of an exception -/
  | xd (fs : List (Str × V))
  /-- a bound method, f of x -/
  | met (f x : Addr)
  /-- a range object lo, lo + 1, .. below hi -/
  | rng (lo hi : Int)
  /-- a thing that is known to the object (the script; a dict while a loop walks it): read, never written while it is so -/
  | frz (o : Obj) (u : HO)
  /-- a code object's table -/
  | tbl (ps : Array Value)
  /-- any other thing, by what is true of its one object (a def of one's own: SetO a S n := HO.ext fun h => ..) -/
  | ext (φ : Heap → Prop)

abbrev Hp := Addr → Option HO
def upd (H : Hp) (a : Addr) (o : HO) : Hp := fun b => if b = a then some o else H b
theorem upd_same {H : Hp} {a : Addr} {o : HO} : upd H a o a = some o := by unfold upd; rw [if_pos rfl]
theorem upd_ne {H : Hp} {a b : Addr} {o : HO} (h : b ≠ a) : upd H a o b = H b := by unfold upd; rw [if_neg h]
theorem upd_upd {H : Hp} {a : Addr} {o u : HO} : upd (upd H a o) a u = upd H a u := by
  funext b; unfold upd; split <;> rfl
/-- two objects of different content stand apart -/
theorem ne_of {H : Hp} {a b : Addr} {o u : HO} (h : H a = some o) (h' : H b = some u) (d : o ≠ u) : a ≠ b := by
  intro e; subst e; rw [h] at h'; exact d (Option.some.inj h')
theorem ne_of_none {H : Hp} {a b : Addr} {o : HO} (h : H a = some o) (h' : H b = none) : a ≠ b := by
  intro e; subst e; rw [h] at h'; cases h'

section
variable (P : Program) (w : World)
def ObjOk (H : Hp) (h : Heap) (a : Addr) : HO → Prop
  | .lst xs => xs.length ≤ sizeLine ∧ ∃ (its : List Value) (n : Nat), Vals xs its ∧ h.get? a = some { cls := .type "list", data := .seq its.toArray n }
  | .tup xs => xs.length ≤ sizeLine ∧ ∃ its : List Value, Vals xs its ∧ IsTup h a its.toArray
  | .dK kvs => kvs.length ≤ sizeLine ∧ (a == sysModules) = false ∧ ∃ vs, KV kvs vs ∧ h.DictOf (mixKind P w) a vs
  | .dT kvs => kvs.length ≤ sizeLine ∧ (a == sysModules) = false ∧ ∃ xs : List (List Key × Addr × Value),
      Paired (fun (p : List Key × V) (q : List Key × Addr × Value) => p.1 = q.1 ∧ H q.2.1 = some (.tup (p.1.map kV)) ∧ RelV p.2 q.2.2) kvs xs ∧
      ∃ o es ep, h.get? a = some o ∧ o.ExactDict ∧ o.data = .dict es ep ∧ es.toList = xs.map (entryOfKey (tupleKind (mixKind P w))) ∧ (xs.map (·.1)).Nodup
  | .set S n => h.SetOf (intKind P w) a S n
  | .ins C dx fs => H dx = some (.own a) ∧ fs.length ≤ 1000 ∧ dx ≠ a ∧ h.get? a = some (PySem.W.instObj C dx) ∧
      ∃ mA, h.Ns1 dx mA ∧ (∀ f, RelO (fs.lookup f) (mA f)) ∧ PySem.Within mA (fs.map (·.1))
  | .own _ => ∃ o, h.get? a = some o
  | .xd fs => ∃ mA, h.Ns1 a mA ∧ ∀ f, RelO (fs.lookup f) (mA f)
  | .rng lo hi => ∃ t u v, h.get? a = some { cls := .type "range", data := .fields #[.int lo t, .int hi u, .int 1 v] }
  | .frz o u => h.get? a = some o ∧ ObjOk H h a u
  | .tbl ps => h.get? a = some { cls := .none, data := .fields ps }
  | .met f x => h.get? a = some (PySem.W.methodObj (.ref f) (.ref x))
  | .ext φ => φ h ∧ (∃ o, h.get? a = some o) ∧ ∀ h1 h2 : Heap, φ h1 → (∀ o, h1.get? a = some o → h2.get? a = some o) → φ h2
/-- the abstract heap is held -/
def HOk (H : Hp) (h : Heap) : Prop := ∀ a o, H a = some o → ObjOk P w H h a o
end

section
variable {P : Program} {w : World} {H H' : Hp} {h h' : Heap} {a : Addr} {o : HO}
theorem ObjOk.lt (x : ObjOk P w H h a o) : a < h.objs.size := by
  cases o with
  | lst xs => obtain ⟨_, _, _, _, e⟩ := x; exact Heap.lt_size e
  | tup xs => obtain ⟨_, _, _, p⟩ := x; exact p.lt
  | dK kvs => obtain ⟨_, _, _, _, o, _, _, e, _⟩ := x; exact Heap.lt_size e
  | dT kvs => obtain ⟨_, _, _, _, o, _, _, e, _⟩ := x; exact Heap.lt_size e
  | set S n => obtain ⟨o, _, _, _, e, _⟩ := x; exact Heap.lt_size e
  | ins C dx fs => obtain ⟨_, _, _, e, _⟩ := x; exact Heap.lt_size e
  | own y => obtain ⟨_, e⟩ := x; exact Heap.lt_size e
  | xd fs => obtain ⟨_, ⟨_, _, _, e, _⟩, _⟩ := x; exact Heap.lt_size e
  | rng lo hi => obtain ⟨_, _, _, e⟩ := x; exact Heap.lt_size e
  | frz ob u => obtain ⟨e, _⟩ := x; exact Heap.lt_size e
  | tbl ps => exact Heap.lt_size (show h.get? a = some _ from x)
  | met f y => exact Heap.lt_size (show h.get? a = some _ from x)
  | ext φ => obtain ⟨_, ⟨_, e⟩, _⟩ := x; exact Heap.lt_size e
theorem Paired.mapP {α β : Type} {F G : α → β → Prop} : ∀ {l₁ : List α} {l₂ : List β}, Paired F l₁ l₂ → (∀ a b, F a b → G a b) → Paired G l₁ l₂
  | _, _, .nil, _ => .nil
  | _, _, .cons r t, f => .cons (f _ _ r) (Paired.mapP t f)
/-- what an object's description leans on: its own object, its own dict, the tuples -/
theorem ObjOk.stay (x : ObjOk P w H h a o) (k : ∀ b u, (b = a ∨ H b = some (.own a)) → h.get? b = some u → h'.get? b = some u)
    (ho : ∀ b, H b = some (.own a) → H' b = some (.own a)) (ht : ∀ b xs, H b = some (.tup xs) → H' b = some (.tup xs)) : ObjOk P w H' h' a o := by
  induction o with
  | lst xs => obtain ⟨z, its, n, r, e⟩ := x; exact ⟨z, its, n, r, k _ _ (.inl rfl) e⟩
  | tup xs => obtain ⟨z, its, r, ob, e, c⟩ := x; exact ⟨z, its, r, ob, k _ _ (.inl rfl) e, c⟩
  | dK kvs => obtain ⟨z, y, vs, r, ob, es, ep, e, c⟩ := x; exact ⟨z, y, vs, r, ob, es, ep, k _ _ (.inl rfl) e, c⟩
  | dT kvs =>
    obtain ⟨z, y, xs, r, ob, es, ep, e, c⟩ := x
    exact ⟨z, y, xs, Paired.mapP r fun p q z => ⟨z.1, ht _ _ z.2.1, z.2.2⟩, ob, es, ep, k _ _ (.inl rfl) e, c⟩
  | set S n => obtain ⟨ob, es, ep, t, e, c⟩ := x; exact ⟨ob, es, ep, t, k _ _ (.inl rfl) e, c⟩
  | ins C dx fs =>
    obtain ⟨d, z, ne, e, mA, ⟨od, es, ep, e2, c⟩, r⟩ := x
    exact ⟨ho _ d, z, ne, k _ _ (.inl rfl) e, mA, ⟨od, es, ep, k _ _ (.inr d) e2, c⟩, r⟩
  | own y => obtain ⟨ob, e⟩ := x; exact ⟨ob, k _ _ (.inl rfl) e⟩
  | xd fs => obtain ⟨mA, ⟨od, es, ep, e, c⟩, r⟩ := x; exact ⟨mA, ⟨od, es, ep, k _ _ (.inl rfl) e, c⟩, r⟩
  | rng lo hi => obtain ⟨t, u, v, e⟩ := x; exact ⟨t, u, v, k _ _ (.inl rfl) e⟩
  | frz ob u ih => obtain ⟨e, q⟩ := x; exact ⟨k _ _ (.inl rfl) e, ih q⟩
  | tbl ps =>
    have e : h.get? a = some { cls := .none, data := .fields ps } := x
    show h'.get? a = some { cls := .none, data := .fields ps }
    exact k a _ (.inl rfl) e
  | met f y =>
    have e : h.get? a = some (PySem.W.methodObj (.ref f) (.ref y)) := x
    show h'.get? a = some (PySem.W.methodObj (.ref f) (.ref y))
    exact k a _ (.inl rfl) e
  | ext φ => obtain ⟨p, ⟨o, e⟩, st⟩ := x; exact ⟨st _ _ p fun o q => k _ _ (.inl rfl) q, ⟨o, k _ _ (.inl rfl) e⟩, st⟩
theorem HOk.lt (x : HOk P w H h) (e : H a = some o) : a < h.objs.size := (x a o e).lt
theorem HOk.fresh (x : HOk P w H h) (e : h.objs.size ≤ a) : H a = none := by
  cases q : H a with
  | none => rfl
  | some u => exact absurd (Nat.lt_of_lt_of_le (x.lt q) e) (Nat.lt_irrefl _)
/-- every object of the heap is kept -/
theorem HOk.kept (x : HOk P w H h) (k : ∀ b u, h.get? b = some u → h'.get? b = some u) : HOk P w H h' := fun a o e =>
  (x a o e).stay (fun b u _ q => k b u q) (fun _ q => q) fun _ _ q => q
/-- a new object is laid and tracked -/
theorem HOk.laid (x : HOk P w H h) (k : ∀ b u, h.get? b = some u → h'.get? b = some u) (hp : h.objs.size ≤ a) (new : ObjOk P w (upd H a o) h' a o) : HOk P w (upd H a o) h' := fun b u e => by
  have hn := x.fresh hp
  by_cases hb : b = a
  · subst hb; rw [upd_same] at e; cases e; exact new
  · rw [upd_ne hb] at e
    exact (x b u e).stay (fun c v _ q => k c v q) (fun c q => by rw [upd_ne (ne_of_none q hn)]; exact q) fun c xs q => by rw [upd_ne (ne_of_none q hn)]; exact q
end

/-- what may be read as u: it is u, or a known u -/
def Rd (H : Hp) (a : Addr) (u : HO) : Prop := H a = some u ∨ ∃ o, H a = some (.frz o u)
theorem Rd.ok {P : Program} {w : World} {H : Hp} {h : Heap} {a : Addr} {u : HO} (r : Rd H a u) (x : HOk P w H h) : ObjOk P w H h a u := by
  rcases r with r | ⟨o, r⟩
  · exact x a u r
  · obtain ⟨_, q⟩ := x a _ r
    exact q
/-- what may be written -/
def Mut : Option HO → Prop
  | some (.lst _) => True
  | some (.dK _) => True
  | some (.dT _) => True
  | some (.set _ _) => True
  | some (.ins _ _ _) => True
  | some (.ext _) => True
  | _ => False
section
variable {P : Program} {w : World} {H : Hp} {h h' : Heap} {x e : Addr} {o' : HO}
/-- the object at e is changed: x itself, or the dict of the instance x -/
theorem HOk.write (ok : HOk P w H h) (mu : Mut (H x)) (he : e = x ∨ H e = some (.own x)) (k : ∀ b u, b ≠ e → h.get? b = some u → h'.get? b = some u) (heo : ∃ u, h'.get? e = some u)
    (new : ObjOk P w (upd H x o') h' x o') : HOk P w (upd H x o') h' := fun b u q => by
  have nown : ∀ c y, H c = some (.own y) → c ≠ x := fun c y r z => by subst z; rw [r] at mu; exact mu
  have ntup : ∀ c xs, H c = some (.tup xs) → c ≠ x := fun c xs r z => by subst z; rw [r] at mu; exact mu
  by_cases hb : b = x
  · subst hb; rw [upd_same] at q; cases q; exact new
  · rw [upd_ne hb] at q
    by_cases hbe : b = e
    · have q' : H b = some (.own x) := by
        rcases he with z | z
        · exact absurd (hbe.trans z) hb
        · rw [hbe]; exact z
      rw [q] at q'; cases q'
      obtain ⟨v, hv⟩ := heo
      exact ⟨v, by rw [hbe]; exact hv⟩
    · refine (ok b u q).stay (fun c v hc r => k c v ?_ r) (fun c r => by rw [upd_ne (nown c b r)]; exact r) fun c xs r => by rw [upd_ne (ntup c xs r)]; exact r
      rcases hc with rfl | hc
      · exact hbe
      · rintro rfl
        rcases he with z | z
        · exact nown c b hc z
        · rw [hc] at z; cases z; exact hb rfl
end

/-! ### kept unless tracked; of the frames at fs (the callers') the slots may change (an exception that passes writes there); of the records at ex (iterators) nothing is said -/
structure Un (fs ex : List Addr) (H H' : Hp) (h h' : Heap) : Prop where
  keep : ∀ b o, h.get? b = some o → H b = none → b ∉ fs → b ∉ ex → h'.get? b = some o
  slot : ∀ b o, h.get? b = some o → H b = none → b ∈ fs → b ∉ ex → ∃ sl, h'.get? b = some { o with slots := sl }
  free : ∀ b o, h.get? b = some o → H b = none → b ∉ ex → H' b = none
  there : ∀ b o, h.get? b = some o → b ∉ ex → ∃ o', h'.get? b = some o'
  tups : ∀ b xs, H b = some (.tup xs) → H' b = some (.tup xs)
  frzs : ∀ b o u, H b = some (.frz o u) → H' b = some (.frz o u)
  tbls : ∀ b ps, H b = some (.tbl ps) → ∃ more, H' b = some (.tbl (ps ++ more))
section
variable {fs fs' ex ex' : List Addr} {H H1 H2 : Hp} {h h1 h2 h' : Heap} {a x e : Addr} {o : HO}
theorem Un.any (u : Un fs ex H H1 h h1) {b : Addr} {ob : Obj} (q : h.get? b = some ob) (n : H b = none) (hx : b ∉ ex) : ∃ sl, h1.get? b = some { ob with slots := sl } := by
  by_cases hb : b ∈ fs
  · exact u.slot b ob q n hb hx
  · exact ⟨ob.slots, u.keep b ob q n hb hx⟩
theorem Un.kept (k : ∀ b u, h.get? b = some u → h'.get? b = some u) : Un fs ex H H h h' :=
  ⟨fun b ob q _ _ _ => k b ob q, fun b ob q _ _ _ => ⟨ob.slots, k b ob q⟩, fun _ _ _ n _ => n, fun b ob q _ => ⟨ob, k b ob q⟩, fun _ _ q => q, fun _ _ _ q => q, fun _ ps q => ⟨#[], by rw [q]; simp⟩⟩
theorem Un.refl : Un fs ex H H h h := Un.kept fun _ _ q => q
theorem Un.laid (k : ∀ b u, h.get? b = some u → h'.get? b = some u) (hp : h.objs.size ≤ a) (hn : H a = none) : Un fs ex H (upd H a o) h h' where
  keep := fun b u q _ _ _ => k b u q
  slot := fun b u q _ _ _ => ⟨u.slots, k b u q⟩
  free := fun b u q n _ => by rw [upd_ne (Nat.ne_of_lt (Nat.lt_of_lt_of_le (Heap.lt_size q) hp))]; exact n
  there := fun b u q _ => ⟨u, k b u q⟩
  tups := fun b xs q => by rw [upd_ne (ne_of_none q hn)]; exact q
  frzs := fun b u xs q => by rw [upd_ne (ne_of_none q hn)]; exact q
  tbls := fun b ps q => ⟨#[], by rw [upd_ne (ne_of_none q hn), q]; simp⟩
theorem Un.write (mu : Mut (H x)) (he : e = x ∨ H e = some (.own x)) (k : ∀ b u, b ≠ e → h.get? b = some u → h'.get? b = some u) (heo : ∃ u, h'.get? e = some u) : Un fs ex H (upd H x o) h h' := by
  have hx : ∀ b, H b = none → b ≠ x := fun b n z => by subst z; rw [n] at mu; exact mu
  have hb : ∀ b, H b = none → b ≠ e := fun b n z => by
    subst z
    rcases he with r | r
    · exact hx b n r
    · rw [n] at r; cases r
  have hm : ∀ b u, H b = some u → ¬ Mut (some u) → b ≠ x := fun b u q nm z => by subst z; rw [q] at mu; exact nm mu
  refine ⟨fun b u q n _ _ => k b u (hb b n) q, fun b u q n _ _ => ⟨u.slots, k b u (hb b n) q⟩, fun b u q n _ => by rw [upd_ne (hx b n)]; exact n, fun b u q _ => ?_,
    fun b xs q => by rw [upd_ne (hm b _ q fun z => z)]; exact q, fun b u xs q => by rw [upd_ne (hm b _ q fun z => z)]; exact q, fun b ps q => ⟨#[], by rw [upd_ne (hm b _ q fun z => z), q]; simp⟩⟩
  by_cases hbe : b = e
  · subst hbe; exact heo
  · exact ⟨u, k b u hbe q⟩
end

/-! ### the heap without what is tracked -/
def trk (h : Heap) (H : Hp) : List Addr := (List.range h.objs.size).filter fun a => (H a).isSome
def hidT (h : Heap) (H : Hp) : Heap := PySem.W.hideAll h (trk h H)
theorem hidT_size (h : Heap) (H : Hp) : (hidT h H).objs.size = h.objs.size := PySem.W.hideAll_size _ _
theorem hidT_get {h : Heap} {H : Hp} {b : Addr} {o : Obj} (e : h.get? b = some o) (n : H b = none) : (hidT h H).get? b = some o :=
  PySem.W.hideAll_get _ e fun hm => by
    have q : (H b).isSome = true := (List.mem_filter.mp hm).2
    rw [n] at q; simp at q
theorem of_hidT {h : Heap} {H : Hp} {b : Addr} {o : Obj} (e : (hidT h H).get? b = some o) : h.get? b = some o ∧ H b = none := by
  have e' : h.get? b = some o := PySem.W.of_hideAll (trk h H) e
  refine ⟨e', ?_⟩
  cases q : H b with
  | none => rfl
  | some x =>
    have hm : b ∈ trk h H := List.mem_filter.mpr ⟨List.mem_range.mpr (Heap.lt_size e'), by simp [q]⟩
    have z : (hidT h H).get? b = none := PySem.W.hideAll_none (trk h H) hm
    rw [z] at e; cases e

/-! ### OpenK's ledger, filled with every new object but one -/
end L2

namespace L2
open PySem PySem.Spec PyProof.Rows

/-- the module's facts, over the base: the heap at the law's entry without what is tracked there -/
structure Mod (K : PySem.W.Frag) (mg : Str → Option Value) (base : Heap) : Prop where
  kin : K.In base
  glob : base.Ns mainGlobals mg
  blt : ∃ mb, base.Ns builtinsNs mb ∧ ∀ x : Str, x ≠ "__name__" → mb x = bootBuiltins x
  nolimit : base.NoLimit

/-- the context: a def's body (or a comprehension's block) running. base: fixed through the whole law; s₀, H₀: the entry; outer: the frames whose slots others may change (a def's callers); stack: all frames that run;
   ex: iterators that were made ahead of the entry and are walked here (a comprehension's); fn: the names whose cells were made at the entry (a def: all; a comprehension's block: its own); calm: not within an except suite; pn: pins that every state bears; xe: what is wanted of an exception that leaves the code -/
structure Cx where
  prog : Program
  w : World
  K : PySem.W.Frag
  mg : Str → Option Value
  base : Heap
  A : Around
  N : List Str
  s_0 : Shared
  H_0 : Hp
  env : Env
  outer : List Env
  stack : List Env
  ex : List Addr
  fn : Str → Bool
  calm : Bool
  pn : List (Addr × Obj)
  xe : Value → Shared → Prop
/-- the callers' frames -/
def frs (l : List Env) : List Addr := l.filterMap (·.frame)
abbrev Cx.fs (X : Cx) : List Addr := frs X.outer

def Vis (sc : Scope) (x : Str) : Prop := sc.names.lookup x = some .local ∨ sc.names.lookup x = some .cell ∨ sc.names.lookup x = some .free
def Loc (sc : Scope) (x : Str) : Prop := sc.names.lookup x = some .local ∨ sc.names.lookup x = some .cell
def Look (env : Env) (h : Heap) (m : Str → Option Value) (x : Str) (u : Value) : Prop :=
  (env.kindOf x = some .local ∧ m x = some u) ∨ ((env.kindOf x = some .cell ∨ env.kindOf x = some .free) ∧ ∃ c, env.cells.lookup x = some c ∧ h.IsCell c (some u))

structure Cx.Ok (X : Cx) : Prop where
  mod : Mod X.K X.mg X.base
  kind : X.env.scope.kind = .function
  glob : X.env.globals = mainGlobals
  blt : X.env.builtins = builtinsNs
  above : X.s_0.heap.objs.size ≤ X.env.locals
  inj : ∀ x y c, X.env.cells.lookup x = some c → X.env.cells.lookup y = some c → x = y
  has : ∀ x, (X.env.kindOf x = some .cell ∨ X.env.kindOf x = some .free) → ∃ c, X.env.cells.lookup x = some c
  cab : ∀ x c, X.fn x = true → X.env.cells.lookup x = some c → X.s_0.heap.objs.size ≤ c
  hd : X.calm = true → X.A.handled = none
  frames : X.A.frames = some X.stack
  stk : X.stack = X.outer ∨ (X.stack = X.env :: X.outer ∧ X.env.frame = some X.env.locals)
  exf : ∀ b ∈ X.ex, b ≠ X.env.locals ∧ ∀ x c, X.env.cells.lookup x = some c → c ≠ b
  bs : ∀ b o, X.base.get? b = some o → X.s_0.heap.get? b = some o ∧ X.H_0 b = none
  bsz : X.base.objs.size ≤ X.s_0.heap.objs.size
  noex : ∀ b o, X.base.get? b = some o → b ∉ X.ex
  exfs : ∀ b ∈ X.ex, b ∉ X.fs
  funs : X.s_0.heap.FunFrames X.base X.outer
  frf : ∀ b ∈ X.fs, X.H_0 b = none

structure Inv (X : Cx) (pins : List (Addr × Obj)) (σ : List (Option V)) (H : Hp) (s : Shared) : Prop where
  ok : X.Ok
  os : s.os = X.s_0.os
  bare : AllBare s.gens
  base : Un X.fs X.ex X.H_0 H X.s_0.heap s.heap
  loc : ∃ m, s.heap.Ns X.env.locals m ∧ ∀ (i : Nat) (x : Str) (v : V), X.N[i]? = some x → σ[i]? = some (some v) → Vis X.env.scope x → ∃ u, RelV v u ∧ Look X.env s.heap m x u
  cell : ∀ x c, X.env.cells.lookup x = some c → ∃ v, s.heap.IsCell c v
  free : H X.env.locals = none
  freeC : ∀ x c, X.env.cells.lookup x = some c → H c = none
  pin : ∀ p ∈ X.pn ++ pins, s.heap.get? p.1 = some p.2 ∧ H p.1 = none ∧ p.1 ≠ X.env.locals ∧ p.1 ∉ X.fs ∧ ∀ v, p.2.data ≠ .cell v
  hok : HOk X.prog X.w H s.heap
  len : σ.length = X.N.length

section
variable {X : Cx} {pins : List (Addr × Obj)} {σ : List (Option V)} {H H' : Hp} {s : Shared} {h' : Heap}

theorem Cx.Ok.nofr (ok : X.Ok) {b : Addr} {o : Obj} (e : X.base.get? b = some o) : b ∉ X.fs := fun hb => by
  have := (ok.funs.mem hb).1
  rw [e] at this; cases this
theorem Inv.bs (I : Inv X pins σ H s) : ∀ b o, X.base.get? b = some o → s.heap.get? b = some o ∧ H b = none := fun b o e =>
  ⟨I.base.keep b o (I.ok.bs b o e).1 (I.ok.bs b o e).2 (I.ok.nofr e) (I.ok.noex b o e), I.base.free b o (I.ok.bs b o e).1 (I.ok.bs b o e).2 (I.ok.noex b o e)⟩
theorem Inv.bk (I : Inv X pins σ H s) : ∀ b o, X.base.get? b = some o → s.heap.get? b = some o := fun b o e => (I.bs b o e).1
theorem Inv.mod (I : Inv X pins σ H s) : Mod X.K X.mg X.base := I.ok.mod
theorem Inv.kIn (I : Inv X pins σ H s) : X.K.In s.heap := I.ok.mod.kin.keeps I.bk
theorem Inv.lt (I : Inv X pins σ H s) : X.env.locals < s.heap.objs.size := let ⟨_, hn, _⟩ := I.loc; hn.lt
theorem Inv.sz (I : Inv X pins σ H s) : X.s_0.heap.objs.size ≤ s.heap.objs.size := Nat.le_trans I.ok.above (Nat.le_of_lt I.lt)
theorem Inv.nofs (I : Inv X pins σ H s) {a : Addr} (h : s.heap.objs.size ≤ a) : a ∉ X.fs := fun hb => by
  obtain ⟨_, o, ho, _⟩ := I.ok.funs.mem hb
  exact absurd (Nat.lt_of_lt_of_le (Heap.lt_size ho) (Nat.le_trans I.sz h)) (Nat.lt_irrefl _)
theorem Inv.cne (I : Inv X pins σ H s) : ∀ x c, X.env.cells.lookup x = some c → c ≠ X.env.locals := fun x c e z => by
  obtain ⟨v, o, ho, hd⟩ := I.cell x c e
  obtain ⟨m, ⟨o', es, ep, ho', hd', _⟩, _⟩ := I.loc
  rw [z, ho'] at ho; cases ho; rw [hd'] at hd; cases hd
theorem Inv.funs (I : Inv X pins σ H s) : s.heap.FunFrames X.base X.outer := by
  have all : ∀ (l : List Env), (∀ b ∈ frs l, b ∈ X.fs) → X.s_0.heap.FunFrames X.base l → s.heap.FunFrames X.base l := by
    intro l
    induction l with
    | nil => intro _ _; trivial
    | cons env r ih =>
      intro hs hl
      obtain ⟨hk, ⟨L, o, hf, hn, ho, hd⟩, hr⟩ := hl
      have hL : L ∈ X.fs := hs L (by unfold frs; rw [List.filterMap_cons, hf]; exact List.mem_cons_self)
      obtain ⟨sl, e⟩ := I.base.slot L o ho (I.ok.frf L hL) hL fun z => I.ok.exfs L z hL
      exact ⟨hk, ⟨L, _, hf, hn, e, hd⟩, ih (fun b hb => hs b (by unfold frs; rw [List.filterMap_cons, hf]; exact List.mem_cons_of_mem _ hb)) hr⟩
  exact all X.outer (fun _ hb => hb) I.ok.funs

/-- the frames that run, for a call -/
theorem Inv.stack (I : Inv X pins σ H s) : s.heap.FunFrames X.base X.stack := by
  rcases I.ok.stk with e | ⟨e, hf⟩
  · rw [e]; exact I.funs
  · rw [e]
    obtain ⟨m, hn, _⟩ := I.loc
    refine .cons (by rw [I.ok.kind]; decide) hf hn ?_ I.funs
    exact Heap.get?_none_of_le (Nat.le_trans I.ok.bsz I.ok.above)
theorem Inv.stkSub (I : Inv X pins σ H s) : ∀ b ∈ frs X.stack, b ∈ X.env.locals :: X.fs := fun b hb => by
  rcases I.ok.stk with e | ⟨e, hf⟩
  · rw [e] at hb; exact List.mem_cons_of_mem _ hb
  · rw [e] at hb
    unfold frs at hb
    rw [List.filterMap_cons, hf] at hb
    exact hb
theorem Inv.stkFree (I : Inv X pins σ H s) : ∀ b ∈ frs X.stack, H b = none := fun b hb => by
  rcases List.mem_cons.mp (I.stkSub b hb) with e | hb
  · rw [e]; exact I.free
  · obtain ⟨_, o, ho, _⟩ := I.ok.funs.mem hb
    exact I.base.free b o ho (I.ok.frf b hb) fun z => I.ok.exfs b z hb

/-- THE STEP: the untracked objects but the frame and the records at ch are kept (the callers' frames up to slots), the frame's map is kept, the new abstract heap is held -/
theorem Inv.step {g' : Array GenState} {t' : Nat} {d' : Drawn} {ch : List Addr} (I : Inv X pins σ H s)
    (hch : ∀ b ∈ ch, (b ∈ X.ex ∨ X.s_0.heap.objs.size ≤ b) ∧ b ≠ X.env.locals ∧ (∀ x c, X.env.cells.lookup x = some c → c ≠ b) ∧ ∀ p ∈ X.pn ++ pins, p.1 ≠ b)
    (keep : ∀ b o, b ≠ X.env.locals → b ∉ X.fs → b ∉ ch → s.heap.get? b = some o → H b = none → h'.get? b = some o)
    (slot : ∀ b o, b ≠ X.env.locals → b ∈ X.fs → b ∉ ch → s.heap.get? b = some o → H b = none → ∃ sl, h'.get? b = some { o with slots := sl }) (free : ∀ b o, b ∉ ch → s.heap.get? b = some o → H b = none → H' b = none)
    (there : ∀ b o, b ∉ ch → s.heap.get? b = some o → ∃ o', h'.get? b = some o')
    (tups : ∀ b xs, H b = some (.tup xs) → H' b = some (.tup xs)) (frzs : ∀ b o u, H b = some (.frz o u) → H' b = some (.frz o u)) (tbls : ∀ b ps, H b = some (.tbl ps) → ∃ more, H' b = some (.tbl (ps ++ more)))
    (ns : ∀ m, s.heap.Ns X.env.locals m → h'.Ns X.env.locals m) (hok : HOk X.prog X.w H' h') (hg : AllBare g') :
    Inv X pins σ H' { s with heap := h', gens := g', drawn := d', toks := t' } := by
  have neL : ∀ b o, X.s_0.heap.get? b = some o → b ≠ X.env.locals := fun b o e => Nat.ne_of_lt (Nat.lt_of_lt_of_le (Heap.lt_size e) I.ok.above)
  have neC : ∀ b o, X.s_0.heap.get? b = some o → b ∉ X.ex → b ∉ ch := fun b o e hx hb => by
    rcases (hch b hb).1 with z | z
    · exact hx z
    · exact absurd (Nat.lt_of_lt_of_le (Heap.lt_size e) z) (Nat.lt_irrefl _)
  have cellK : ∀ x c, X.env.cells.lookup x = some c → ∀ v, s.heap.IsCell c v → h'.IsCell c v := fun x c e v ⟨o, ho, hd⟩ => by
    have nch : c ∉ ch := fun z => (hch c z).2.2.1 x c e rfl
    by_cases hc : c ∈ X.fs
    · obtain ⟨sl, q⟩ := slot c o (I.cne x c e) hc nch ho (I.freeC x c e)
      exact ⟨_, q, hd⟩
    · exact ⟨o, keep c o (I.cne x c e) hc nch ho (I.freeC x c e), hd⟩
  refine ⟨I.ok, I.os, hg, ⟨fun b o e n hb hx => ?_, fun b o e n hb hx => ?_, fun b o e n hx => ?_, fun b o e hx => ?_, fun b xs e => tups b xs (I.base.tups b xs e), fun b o xs e => frzs b o xs (I.base.frzs b o xs e), fun b ps e => ?_⟩, ?_, fun x c e => ?_, ?_, fun x c e => ?_, fun p hp => ?_, hok, I.len⟩
  · exact keep b o (neL b o e) hb (neC b o e hx) (I.base.keep b o e n hb hx) (I.base.free b o e n hx)
  · obtain ⟨sl, e1⟩ := I.base.slot b o e n hb hx
    obtain ⟨sl', e2⟩ := slot b _ (neL b o e) hb (neC b o e hx) e1 (I.base.free b o e n hx)
    exact ⟨sl', e2⟩
  · obtain ⟨o', e1⟩ := I.base.there b o e hx
    exact free b o' (neC b o e hx) e1 (I.base.free b o e n hx)
  · obtain ⟨o', e1⟩ := I.base.there b o e hx
    exact there b o' (neC b o e hx) e1
  · obtain ⟨m1, e1⟩ := I.base.tbls b ps e
    obtain ⟨m2, e2⟩ := tbls b _ e1
    exact ⟨m1 ++ m2, by rw [e2, Array.append_assoc]⟩
  · obtain ⟨m, hn, hl⟩ := I.loc
    refine ⟨m, ns m hn, fun i x v e1 e2 e3 => ?_⟩
    obtain ⟨u, r, l⟩ := hl i x v e1 e2 e3
    refine ⟨u, r, ?_⟩
    rcases l with l | ⟨k, c, e, z⟩
    · exact .inl l
    · exact .inr ⟨k, c, e, cellK x c e _ z⟩
  · obtain ⟨v, z⟩ := I.cell x c e
    exact ⟨v, cellK x c e v z⟩
  · obtain ⟨m, ⟨o, _, _, ho, _⟩, _⟩ := I.loc
    exact free _ o (fun z => (hch _ z).2.1 rfl) ho I.free
  · obtain ⟨v, o, ho, hd⟩ := I.cell x c e
    exact free c o (fun z => (hch c z).2.2.1 x c e rfl) ho (I.freeC x c e)
  · obtain ⟨e, n, ne, nf, d⟩ := I.pin p hp
    have nch : p.1 ∉ ch := fun z => (hch p.1 z).2.2.2 p hp rfl
    exact ⟨keep p.1 p.2 ne nf nch e n, free p.1 p.2 nch e n, ne, nf, d⟩
/-- .. where the frame's own object is kept too -/
theorem Inv.un {t' : Nat} (I : Inv X pins σ H s) (u : Un X.fs [] H H' s.heap h') (hok : HOk X.prog X.w H' h') : Inv X pins σ H' { s with heap := h', toks := t' } := by
  obtain ⟨m, ⟨o, es, ep, ho, r⟩, _⟩ := id I.loc
  obtain ⟨sl, hL⟩ := u.any ho I.free (by simp)
  exact I.step (g' := s.gens) (d' := s.drawn) (ch := []) (fun _ z => nomatch z) (fun b o _ hb _ e n => u.keep b o e n hb (by simp)) (fun b o _ hb _ e n => u.slot b o e n hb (by simp)) (fun b o _ e n => u.free b o e n (by simp)) (fun b o _ e => u.there b o e (by simp)) u.tups u.frzs u.tbls (fun m' hm => by
    obtain ⟨o', es', ep', ho', r'⟩ := hm
    rw [ho] at ho'; cases ho'
    exact ⟨_, es', ep', hL, r'⟩) hok I.bare
/-- behind a call (or a comprehension's block): the slots of this frame may have changed too, the records at ch may have turned -/
theorem Inv.call {g' : Array GenState} {t' : Nat} {d' : Drawn} {ch : List Addr} (I : Inv X pins σ H s) (u : Un (frs X.stack) ch H H' s.heap h') (hok : HOk X.prog X.w H' h') (hg : AllBare g')
    (hch : ∀ b ∈ ch, (b ∈ X.ex ∨ X.s_0.heap.objs.size ≤ b) ∧ b ≠ X.env.locals ∧ (∀ x c, X.env.cells.lookup x = some c → c ≠ b) ∧ ∀ p ∈ X.pn ++ pins, p.1 ≠ b) :
    Inv X pins σ H' { s with heap := h', gens := g', drawn := d', toks := t' } := by
  obtain ⟨m, ⟨o, es, ep, ho, r⟩, _⟩ := id I.loc
  obtain ⟨sl, hL⟩ := u.any ho I.free fun z => (hch _ z).2.1 rfl
  exact I.step (ch := ch) hch (fun b o hL hb hc e n => u.keep b o e n (fun z => (List.mem_cons.mp (I.stkSub b z)).elim hL hb) hc) (fun b o _ _ hc e n => u.any e n hc) (fun b o hc e n => u.free b o e n hc) (fun b o hc e => u.there b o e hc) u.tups u.frzs u.tbls (fun m' hm => by
    obtain ⟨o', es', ep', ho', r'⟩ := hm
    rw [ho] at ho'; cases ho'
    exact ⟨_, es', ep', hL, r'⟩) hok hg
/-- an untracked record of ours (an iterator) has turned -/
theorem Inv.turned {t' : Nat} {it : Addr} (I : Inv X pins σ H s) (k : ∀ b o, b ≠ it → s.heap.get? b = some o → h'.get? b = some o) (hn : H it = none) (hL : it ≠ X.env.locals)
    (h1 : it ∈ X.ex ∨ X.s_0.heap.objs.size ≤ it) (h2 : ∀ x c, X.env.cells.lookup x = some c → c ≠ it) (h3 : ∀ p ∈ X.pn ++ pins, p.1 ≠ it) : Inv X pins σ H { s with heap := h', toks := t' } := by
  have nit : ∀ b u, H b = some u → b ≠ it := fun b u e z => by rw [z, hn] at e; cases e
  refine I.step (g' := s.gens) (d' := s.drawn) (ch := [it]) (fun b hb => ?_) (fun b o _ _ hc e _ => k b o (fun z => hc (by simp [z])) e) (fun b o _ _ hc e _ => ⟨o.slots, k b o (fun z => hc (by simp [z])) e⟩) (fun _ _ _ _ n => n)
    (fun b o hc e => ⟨o, k b o (fun z => hc (by simp [z])) e⟩) (fun _ _ e => e) (fun _ _ _ e => e) (fun b ps e => ⟨#[], by rw [e]; simp⟩) (fun m hm => ?_) (fun b u e => ?_) I.bare
  · have e : b = it := by simpa using hb
    subst e
    exact ⟨h1, hL, h2, h3⟩
  · obtain ⟨o, es, ep, ho, r⟩ := hm
    exact ⟨o, es, ep, k _ o (Ne.symm hL) ho, r⟩
  · refine (I.hok b u e).stay (fun c v hc q => k c v ?_ q) (fun _ q => q) fun _ _ q => q
    rcases hc with z | z
    · rw [z]; exact nit b u e
    · exact nit c _ z
theorem Inv.tok (I : Inv X pins σ H s) (t : Nat) : Inv X pins σ H { s with toks := t } := I.un (h' := s.heap) (t' := t) Un.refl I.hok
/-- all objects kept -/
theorem Inv.kept {t' : Nat} (I : Inv X pins σ H s) (k : ∀ b u, s.heap.get? b = some u → h'.get? b = some u) : Inv X pins σ H { s with heap := h', toks := t' } := I.un (Un.kept k) (I.hok.kept k)
/-- a new object laid and tracked -/
theorem Inv.laid {a : Addr} {o : HO} {t' : Nat} (I : Inv X pins σ H s) (k : ∀ b u, s.heap.get? b = some u → h'.get? b = some u) (hp : s.heap.objs.size ≤ a) (new : ObjOk X.prog X.w (upd H a o) h' a o) :
    Inv X pins σ (upd H a o) { s with heap := h', toks := t' } := I.un (Un.laid k hp (I.hok.fresh hp)) (I.hok.laid k hp new)
/-- an object written -/
theorem Inv.write {x e : Addr} {o : HO} {t' : Nat} (I : Inv X pins σ H s) (mu : Mut (H x)) (he : e = x ∨ H e = some (.own x)) (k : ∀ b u, b ≠ e → s.heap.get? b = some u → h'.get? b = some u) (heo : ∃ u, h'.get? e = some u)
    (new : ObjOk X.prog X.w (upd H x o) h' x o) : Inv X pins σ (upd H x o) { s with heap := h', toks := t' } := I.un (Un.write mu he k heo) (I.hok.write mu he k heo new)
/-- forgetting slots, pins -/
theorem Inv.weak {σ' : List (Option V)} (I : Inv X pins σ H s) (hl : σ'.length = σ.length) (w : ∀ (i : Nat) v, σ'[i]? = some (some v) → σ[i]? = some (some v)) : Inv X pins σ' H s :=
  ⟨I.ok, I.os, I.bare, I.base, let ⟨m, hn, hl'⟩ := I.loc; ⟨m, hn, fun i x v e1 e2 e3 => hl' i x v e1 (w i v e2) e3⟩, I.cell, I.free, I.freeC, I.pin, I.hok, hl.trans I.len⟩
theorem Inv.pins_of {pins' : List (Addr × Obj)} (I : Inv X pins σ H s) (h : ∀ p ∈ pins', s.heap.get? p.1 = some p.2 ∧ H p.1 = none ∧ p.1 ≠ X.env.locals ∧ p.1 ∉ X.fs ∧ ∀ v, p.2.data ≠ .cell v) : Inv X pins' σ H s :=
  ⟨I.ok, I.os, I.bare, I.base, I.loc, I.cell, I.free, I.freeC, fun p hp => (List.mem_append.mp hp).elim (fun z => I.pin p (List.mem_append_left _ z)) (h p), I.hok, I.len⟩

theorem nodup_ix {N : List Str} (hN : N.Nodup) {i j : Nat} {x : Str} (a : N[i]? = some x) (b : N[j]? = some x) : i = j := by
  obtain ⟨h1, e1⟩ := List.getElem?_eq_some_iff.mp a
  obtain ⟨h2, e2⟩ := List.getElem?_eq_some_iff.mp b
  exact (List.getElem_inj hN).mp (e1.trans e2.symm)

/-- a name is stored; what changed -/
theorem store_ok2 {M : Model} {A : Around} {E : Value → Shared → Prop} {i : Nat} {x : Str} {v : V} {u : Value} {Q : Unit → Shared → Prop} (I : Inv X pins σ H s) (hN : X.N.Nodup) (hi : X.N[i]? = some x) (hx : Loc X.env.scope x) (r : RelV v u)
    (h : ∀ s', Inv X pins (σ.set i (some v)) H s' → (∃ a, Heap.SameBut a s.heap s'.heap ∧ (a = X.env.locals ∨ X.env.cells.lookup x = some a)) → Q () s') (hf : X.fn x = true ∨ X.env.scope.names.lookup x = some .local := by first | exact .inl rfl | exact .inr rfl | assumption) : wpAny M A (storeName X.env x u) Q E s := by
  obtain ⟨m, hn, hl⟩ := id I.loc
  have hcls : (X.env.scope.kind == .class || (X.env.scope.kind == .module && X.env.locals != X.env.globals)) = false := by rw [I.ok.kind]; rfl
  have hiσ : i < σ.length := by rw [I.len]; exact (List.getElem?_eq_some_iff.mp hi).1
  have cne := I.cne
  have tracked : ∀ {a : Addr} {h' : Heap}, (∃ o, s.heap.get? a = some o ∧ H a = none) → Heap.SameBut a s.heap h' → HOk X.prog X.w H h' := fun {a h'} ha hs b ob e => by
    obtain ⟨_, _, hfree⟩ := ha
    refine (I.hok b ob e).stay (fun c w' hc q => (hs.2 c ?_).trans q) (fun _ q => q) fun _ _ q => q
    rintro rfl
    rcases hc with rfl | hc
    · rw [hfree] at e; cases e
    · rw [hfree] at hc; cases hc
  rcases hx with hk | hk
  · refine wpAny_storeName_local hk hn (fun h' hn' hs => ?_) hcls
    obtain ⟨oL, _, _, hoL, _⟩ := id hn
    refine h _ ⟨I.ok, I.os, I.bare, ⟨fun b o e n hb hx => ?_, fun b o e n hb hx => ?_, I.base.free, fun b o e hx => ?_, I.base.tups, I.base.frzs, I.base.tbls⟩, ⟨_, hn', fun j y v' e1 e2 e3 => ?_⟩, fun y c e => ?_, I.free, I.freeC, fun p hp => ?_, tracked ⟨oL, hoL, I.free⟩ hs, by simpa using I.len⟩ ⟨_, hs, .inl rfl⟩
    · exact (hs.2 b (Nat.ne_of_lt (Nat.lt_of_lt_of_le (Heap.lt_size e) I.ok.above))).trans (I.base.keep b o e n hb hx)
    · obtain ⟨sl, e1⟩ := I.base.slot b o e n hb hx
      exact ⟨sl, (hs.2 b (Nat.ne_of_lt (Nat.lt_of_lt_of_le (Heap.lt_size e) I.ok.above))).trans e1⟩
    · obtain ⟨o', e1⟩ := I.base.there b o e hx
      exact ⟨o', (hs.2 b (Nat.ne_of_lt (Nat.lt_of_lt_of_le (Heap.lt_size e) I.ok.above))).trans e1⟩
    · by_cases hj : j = i
      · subst hj
        rw [hi] at e1; cases e1
        rw [List.getElem?_set_self hiσ] at e2
        cases e2
        exact ⟨u, r, .inl ⟨hk, by simp⟩⟩
      · rw [List.getElem?_set_ne (Ne.symm hj)] at e2
        obtain ⟨u', r', q⟩ := hl j y v' e1 e2 e3
        refine ⟨u', r', ?_⟩
        rcases q with ⟨k, e⟩ | ⟨k, c, e, z⟩
        · refine .inl ⟨k, ?_⟩
          have : y ≠ x := fun e => hj (nodup_ix hN e1 (e ▸ hi))
          simp [this, e]
        · exact .inr ⟨k, c, e, z.sameBut hs (cne y c e)⟩
    · obtain ⟨w', z⟩ := I.cell y c e
      exact ⟨w', z.sameBut hs (cne y c e)⟩
    · obtain ⟨e, n, ne, nf, d⟩ := I.pin p hp
      exact ⟨(hs.2 p.1 ne).trans e, n, ne, nf, d⟩
  · have hfn : X.fn x = true := by
      rcases hf with z | z
      · exact z
      · rw [z] at hk; cases hk
    obtain ⟨c, hc⟩ := I.ok.has x (.inl hk)
    obtain ⟨w', z⟩ := I.cell x c hc
    refine wpAny_storeName_cell I.ok.kind hk hc z (fun h' hc' hs => ?_)
    obtain ⟨oc, hoc, hocd⟩ := id z
    refine h { s with heap := h' } ⟨I.ok, I.os, I.bare, ⟨fun b o e n hb hx => ?_, fun b o e n hb hx => ?_, I.base.free, fun b o e hx => ?_, I.base.tups, I.base.frzs, I.base.tbls⟩, ⟨m, hn.sameBut hs (Ne.symm (cne x c hc)), fun j y v' e1 e2 e3 => ?_⟩, fun y c' e => ?_, I.free, I.freeC, fun p hp => ?_, tracked ⟨oc, hoc, I.freeC x c hc⟩ hs, by simpa using I.len⟩ ⟨c, hs, .inr hc⟩
    · exact (hs.2 b (Nat.ne_of_lt (Nat.lt_of_lt_of_le (Heap.lt_size e) (I.ok.cab x c hfn hc)))).trans (I.base.keep b o e n hb hx)
    · obtain ⟨sl, e1⟩ := I.base.slot b o e n hb hx
      exact ⟨sl, (hs.2 b (Nat.ne_of_lt (Nat.lt_of_lt_of_le (Heap.lt_size e) (I.ok.cab x c hfn hc)))).trans e1⟩
    · obtain ⟨o', e1⟩ := I.base.there b o e hx
      exact ⟨o', (hs.2 b (Nat.ne_of_lt (Nat.lt_of_lt_of_le (Heap.lt_size e) (I.ok.cab x c hfn hc)))).trans e1⟩
    · by_cases hj : j = i
      · subst hj
        rw [hi] at e1; cases e1
        rw [List.getElem?_set_self hiσ] at e2
        cases e2
        exact ⟨u, r, .inr ⟨.inl hk, c, hc, hc'⟩⟩
      · rw [List.getElem?_set_ne (Ne.symm hj)] at e2
        obtain ⟨u', r', q⟩ := hl j y v' e1 e2 e3
        refine ⟨u', r', ?_⟩
        rcases q with q | ⟨k, c', e, z'⟩
        · exact .inl q
        · refine .inr ⟨k, c', e, z'.sameBut hs ?_⟩
          rintro rfl
          exact hj (nodup_ix hN e1 (I.ok.inj _ _ _ e hc ▸ hi))
    · by_cases hcc : c' = c
      · subst hcc; exact ⟨_, hc'⟩
      · obtain ⟨w2, z2⟩ := I.cell y c' e
        exact ⟨w2, z2.sameBut hs hcc⟩
    · obtain ⟨e, n, ne, nf, d⟩ := I.pin p hp
      refine ⟨(hs.2 p.1 ?_).trans e, n, ne, nf, d⟩
      intro q
      rw [q, hoc] at e
      have q' : oc = p.2 := Option.some.inj e
      exact d w' (by rw [← q']; exact hocd)
theorem store_ok {M : Model} {A : Around} {E : Value → Shared → Prop} {i : Nat} {x : Str} {v : V} {u : Value} {Q : Unit → Shared → Prop} (I : Inv X pins σ H s) (hN : X.N.Nodup) (hi : X.N[i]? = some x) (hx : Loc X.env.scope x) (r : RelV v u)
    (h : ∀ s', Inv X pins (σ.set i (some v)) H s' → Q () s') (hf : X.fn x = true ∨ X.env.scope.names.lookup x = some .local := by first | exact .inl rfl | exact .inr rfl | assumption) : wpAny M A (storeName X.env x u) Q E s :=
  store_ok2 I hN hi hx r (fun s' I' _ => h s' I') hf
/-- behind a call or a block, the state as it is -/
theorem Inv.call' {s' : Shared} {ch : List Addr} (I : Inv X pins σ H s) (ho : s'.os = s.os) (u : Un (frs X.stack) ch H H' s.heap s'.heap) (hok : HOk X.prog X.w H' s'.heap) (hg : AllBare s'.gens)
    (hch : ∀ b ∈ ch, (b ∈ X.ex ∨ X.s_0.heap.objs.size ≤ b) ∧ b ≠ X.env.locals ∧ (∀ x c, X.env.cells.lookup x = some c → c ≠ b) ∧ ∀ p ∈ X.pn ++ pins, p.1 ≠ b) : Inv X pins σ H' s' := by
  obtain ⟨h', g', d', t', o'⟩ := s'
  have e : o' = s.os := ho
  subst e
  exact I.call (g' := g') (t' := t') (d' := d') u hok hg hch
end

/-! ### the judgements -/
/-- an exception: its class, its own dict's address (where it has one), the abstract heap behind it -/
abbrev XK := Value → Option Addr → Hp → Prop
abbrev St := List (Option V)
abbrev VK := V → Hp → Prop
/-- an expression's reading; a test's; an argument list's -/
abbrev TE := St → Hp → VK → Prop
abbrev TT := St → Hp → (Bool → Hp → Prop) → Prop
abbrev TA := St → Hp → (List V → Hp → Prop) → Prop
/-- what is wanted behind a statement -/
structure Ends where
  nx : St → Hp → Prop
  rt : VK
  bk : St → Hp → Prop := fun _ _ => False
  ct : St → Hp → Prop := fun _ _ => False
abbrev TS := Ends → St → Hp → Prop

def EP (X : Cx) (pins : List (Addr × Obj)) (σ : St) (Q : VK) (u : Value) (s' : Shared) : Prop := ∃ v H', Inv X pins σ H' s' ∧ RelV v u ∧ Q v H'
def TP (X : Cx) (pins : List (Addr × Obj)) (σ : St) (Q : Bool → Hp → Prop) (b : Bool) (s' : Shared) : Prop := ∃ H', Inv X pins σ H' s' ∧ Q b H'
def AP (X : Cx) (pins : List (Addr × Obj)) (σ : St) (Q : List V → Hp → Prop) (us : List Value) (s' : Shared) : Prop := ∃ vs H', Inv X pins σ H' s' ∧ Vals vs us ∧ Q vs H'
def SP (X : Cx) (pins : List (Addr × Obj)) (D : Ends) (f : Flow) (s' : Shared) : Prop :=
  match f with
  | .next => ∃ σ' H', Inv X pins σ' H' s' ∧ D.nx σ' H'
  | .brk => ∃ σ' H', Inv X pins σ' H' s' ∧ D.bk σ' H'
  | .cont => ∃ σ' H', Inv X pins σ' H' s' ∧ D.ct σ' H'
  | .ret u => ∃ v σ' H', Inv X pins σ' H' s' ∧ RelV v u ∧ D.rt v H'

def PE (X : Cx) (e : Expr) (t : TE) : Prop :=
  ∀ (pins : List (Addr × Obj)) (s : Shared) (σ : St) (H : Hp) (Q : VK), Inv X pins σ H s → t σ H Q → wpAny (model X.prog X.w) X.A (eval e X.env) (EP X pins σ Q) X.xe s
def PT (X : Cx) (e : Expr) (t : TT) : Prop :=
  ∀ (pins : List (Addr × Obj)) (s : Shared) (σ : St) (H : Hp) (Q : Bool → Hp → Prop), Inv X pins σ H s → t σ H Q → wpAny (model X.prog X.w) X.A (isTrue e X.env (eval e X.env)) (TP X pins σ Q) X.xe s
/-- a test whatever its 'whole' is (and, or) -/
def PW (X : Cx) (e : Expr) (t : TT) : Prop :=
  ∀ (whole : Sem Value) (pins : List (Addr × Obj)) (s : Shared) (σ : St) (H : Hp) (Q : Bool → Hp → Prop), Inv X pins σ H s → t σ H Q → wpAny (model X.prog X.w) X.A (isTrue e X.env whole) (TP X pins σ Q) X.xe s
theorem PW.pt {X : Cx} {e : Expr} {t : TT} (h : PW X e t) : PT X e t := h _
/-- an argument list (no star), from the left -/
def PA (X : Cx) (es : List Expr) (t : TA) : Prop :=
  ∀ (pos : Pos) (pins : List (Addr × Obj)) (s : Shared) (σ : St) (H : Hp) (Q : List V → Hp → Prop), Inv X pins σ H s → t σ H Q → wpAny (model X.prog X.w) X.A (spliced (backTo pos (starEach es X.env))) (AP X pins σ Q) X.xe s
def PS (X : Cx) (st : Stmt) (t : TS) : Prop :=
  ∀ (pins : List (Addr × Obj)) (s : Shared) (σ : St) (H : Hp) (D : Ends), Inv X pins σ H s → t D σ H → wpAny (model X.prog X.w) X.A (exec st X.env) (SP X pins D) X.xe s
def PSs (X : Cx) (st : List Stmt) (t : TS) : Prop :=
  ∀ (pins : List (Addr × Obj)) (s : Shared) (σ : St) (H : Hp) (D : Ends), Inv X pins σ H s → t D σ H → wpAny (model X.prog X.w) X.A (execs st X.env) (SP X pins D) X.xe s
/-- weaken the end -/
theorem thn {α : Type} {t : Sem α} {Q Q' : α → Shared → Prop} {M : Model} {A : Around} {E : Value → Shared → Prop} {s : Shared} (h : wpAny M A t Q E s) (hQ : ∀ a s, Q a s → Q' a s) : wpAny M A t Q' E s := wpAny_mono h hQ fun _ _ x => x
end L2

namespace L2
open PySem PySem.Spec PyProof.Rows
section
variable {X : Cx}

/-! ### names and constants -/
def tVar (i : Nat) : TE := fun σ H Q => ∃ v, σ[i]? = some (some v) ∧ Q v H
def tC (v : V) : TE := fun _ H Q => Q v H
theorem pe_var {i : Nat} {x : Str} {pos : Pos} (hN : X.N[i]? = some x) (hv : Vis X.env.scope x) (hd : (x == ("__debug__" : Str)) = false := by decide) (hcd : (x == ("__classdict__" : Str)) = false := by decide) : PE X (.Name x pos) (tVar i) := by
  intro pins s σ H Q I h
  obtain ⟨v, e, h⟩ := h
  obtain ⟨m, hn, hl⟩ := I.loc
  obtain ⟨u, r, l⟩ := hl i x v hN e hv
  have fin : EP X pins σ Q u s := ⟨v, H, I, r, h⟩
  rcases l with ⟨hk, hm⟩ | ⟨hk, c, hc, hcell⟩
  · exact wpAny_Name (wpAny_loadName_local I.ok.kind hk hn hm fin) hd
  · rcases hk with hk | hk
    · exact wpAny_Name (wpAny_loadName_cell I.ok.kind hk hc hcell fin) hd
    · exact wpAny_Name (wpAny_loadName_free I.ok.kind hk hc hcell fin hcd) hd
theorem pe_int {i j pos} : PE X (.Constant (.int i) j pos) (tC (.int i)) := fun _ _ _ H _ I h => wpAny_Constant_int ⟨.int i, H, I.tok _, ⟨_, rfl⟩, h⟩
theorem pe_bl {b j pos} : PE X (.Constant (.bool b) j pos) (tC (.bl b)) := fun _ _ _ H _ I h => Constant_bool ⟨.bl b, H, I, rfl, h⟩
/-- a global name of the def -/
def Gl (X : Cx) (x : Str) : Prop := X.env.kindOf x = some .globalImplicit
theorem ld_glob {E : Value → Shared → Prop} {pins : List (Addr × Obj)} {s : Shared} {σ : St} {H : Hp} {x : Str} {u : Value} {pos : Pos} {Q : Value → Shared → Prop} (I : Inv X pins σ H s) (hg : Gl X x) (hm : X.mg x = some u) (h : Q u s)
    (hd : (x == ("__debug__" : Str)) = false := by decide) : wpAny (model X.prog X.w) X.A (eval (.Name x pos) X.env) Q E s :=
  Calls.Name_function_global I.ok.kind hg (Calls.loadGlobal_global (by rw [I.ok.glob]; exact I.mod.glob.keeps I.bk) hm h) hd
theorem ld_blt {E : Value → Shared → Prop} {pins : List (Addr × Obj)} {s : Shared} {σ : St} {H : Hp} {x : Str} {u : Value} {pos : Pos} {Q : Value → Shared → Prop} (I : Inv X pins σ H s) (hg : Gl X x) (hm : X.mg x = none) (hv : bootBuiltins x = some u) (h : Q u s)
    (hn : x ≠ "__name__" := by decide) (hd : (x == ("__debug__" : Str)) = false := by decide) : wpAny (model X.prog X.w) X.A (eval (.Name x pos) X.env) Q E s := by
  obtain ⟨mb, h1, h2⟩ := I.mod.blt
  exact Calls.Name_function_global I.ok.kind hg (Calls.loadGlobal_builtin (by rw [I.ok.glob]; exact I.mod.glob.keeps I.bk) hm (by rw [I.ok.blt]; exact h1.keeps I.bk) ((h2 x hn).trans hv) h) hd
/-- a module's constant, a class, a function, as a value -/
theorem pe_glob {x : Str} {v : V} {u : Value} {pos : Pos} (hg : Gl X x) (hm : X.mg x = some u) (r : RelV v u) (hd : (x == ("__debug__" : Str)) = false := by decide) : PE X (.Name x pos) (tC v) :=
  fun _ _ _ H _ I h => ld_glob I hg hm ⟨v, H, I, r, h⟩ hd
/-! ### arithmetic -/
variable {a b : Expr} {ta tb : TE} {pos : Pos}
/-! ### comparisons -/
/-- a comparison as a value, as a test -/
def tB (t : TE) : TT := fun σ H Q => t σ H fun x H1 => ∃ c, x = .bl c ∧ Q c H1
/-- an expression whose value is a bool, as a test -/
theorem pt_val {e : Expr} {t : TE} (h : PE X e t) (he : ∀ whole, isTrue e X.env whole = (do let v ← whole; standAt e.pos; holding [v] (truthy v)) := by intro _; rfl) : PT X e (tB t) := by
  intro pins s σ H Q I hw
  refine isTrue_plain (thn (h pins s σ H _ I hw) fun v s1 ⟨x, H1, I1, r1, q1⟩ => ?_) (he _)
  obtain ⟨d, rfl, q⟩ := q1
  cases r1
  exact wpAny_truthy_bool ⟨H1, I1, q⟩

/-! ### and, or, not -/
variable {tA tB' : TT} {rest : List Expr}
def tAnd (t u : TT) : TT := fun σ H Q => t σ H fun c H1 => if c = true then u σ H1 Q else Q false H1
def tOr (t u : TT) : TT := fun σ H Q => t σ H fun c H1 => if c = true then Q true H1 else u σ H1 Q
def tNot (t : TT) : TT := fun σ H Q => t σ H fun c H1 => Q (!c) H1
theorem pw_and1 (ha : PT X a tA) : PW X (.BoolOp .And [a] pos) tA := by
  intro wh pins s σ H Q I h
  refine isTrue_and (thn (ha pins s σ H Q I h) fun c s1 e => ?_)
  cases c with
  | true => exact isTrue_and_nil e
  | false => exact e
theorem pw_or1 (ha : PT X a tA) : PW X (.BoolOp .Or [a] pos) tA := by
  intro wh pins s σ H Q I h
  refine isTrue_or (thn (ha pins s σ H Q I h) fun c s1 e => ?_)
  cases c with
  | false => exact isTrue_or_nil e
  | true => exact e
theorem pw_and (ha : PT X a tA) (hb : PW X (.BoolOp .And (b :: rest) pos) tB') : PW X (.BoolOp .And (a :: b :: rest) pos) (tAnd tA tB') := by
  intro wh pins s σ H Q I h
  refine isTrue_and (thn (ha pins s σ H _ I h) fun c s1 ⟨H1, I1, q1⟩ => ?_)
  cases c with
  | true => exact hb wh pins s1 σ H1 Q I1 q1
  | false => exact ⟨H1, I1, q1⟩
theorem pw_or (ha : PT X a tA) (hb : PW X (.BoolOp .Or (b :: rest) pos) tB') : PW X (.BoolOp .Or (a :: b :: rest) pos) (tOr tA tB') := by
  intro wh pins s σ H Q I h
  refine isTrue_or (thn (ha pins s σ H _ I h) fun c s1 ⟨H1, I1, q1⟩ => ?_)
  cases c with
  | true => exact ⟨H1, I1, q1⟩
  | false => exact hb wh pins s1 σ H1 Q I1 q1
theorem pt_not (ha : PT X a tA) : PT X (.UnaryOp .Not a pos) (tNot tA) := by
  intro pins s σ H Q I h
  exact isTrue_not (ha pins s σ H (fun c H1 => Q (!c) H1) I h)
/-- .. as values (bools) -/
def tAndV (ta tb : TE) : TE := fun σ H Q => ta σ H fun x H1 => ∃ c, x = .bl c ∧ if c = true then tb σ H1 Q else Q (.bl false) H1
def tOrV (ta tb : TE) : TE := fun σ H Q => ta σ H fun x H1 => ∃ c, x = .bl c ∧ if c = true then Q (.bl true) H1 else tb σ H1 Q
theorem pe_one {op} {t : TE} (h : PE X a t) : PE X (.BoolOp op [a] pos) t := fun pins s σ H Q I hw => BoolOp_one (h pins s σ H Q I hw)
theorem pe_and (ha : PE X a ta) (hb : PE X (.BoolOp .And (b :: rest) pos) tb) : PE X (.BoolOp .And (a :: b :: rest) pos) (tAndV ta tb) := by
  intro pins s σ H Q I h
  refine BoolOp_and (thn (ha pins s σ H _ I h) fun v s1 ⟨x, H1, I1, r1, q1⟩ => ?_)
  obtain ⟨c, rfl, q1⟩ := q1
  cases r1
  refine wpAny_truthy_bool ?_
  cases c with
  | true => exact hb pins s1 σ H1 Q I1 q1
  | false => exact ⟨.bl false, H1, I1, rfl, q1⟩
theorem pe_or (ha : PE X a ta) (hb : PE X (.BoolOp .Or (b :: rest) pos) tb) : PE X (.BoolOp .Or (a :: b :: rest) pos) (tOrV ta tb) := by
  intro pins s σ H Q I h
  refine BoolOp_or (thn (ha pins s σ H _ I h) fun v s1 ⟨x, H1, I1, r1, q1⟩ => ?_)
  obtain ⟨c, rfl, q1⟩ := q1
  cases r1
  refine wpAny_truthy_bool ?_
  cases c with
  | false => exact hb pins s1 σ H1 Q I1 q1
  | true => exact ⟨.bl true, H1, I1, rfl, q1⟩
/-- a if t else b -/
def tIf (t : TT) (ta tb : TE) : TE := fun σ H Q => t σ H fun c H1 => if c = true then ta σ H1 Q else tb σ H1 Q
theorem pe_ifExp {c : Expr} (hc : PT X c tA) (ha : PE X a ta) (hb : PE X b tb) : PE X (.IfExp c a b pos) (tIf tA ta tb) := by
  intro pins s σ H Q I h
  refine wpAny_IfExp (thn (hc pins s σ H _ I h) fun d s1 ⟨H1, I1, q1⟩ => ?_)
  cases d with
  | true => exact ha pins s1 σ H1 Q I1 q1
  | false => exact hb pins s1 σ H1 Q I1 q1
end
end L2

namespace L2
open PySem PySem.Spec PyProof.Rows

/-! ### a list, a tuple that is read: tracked, frozen, or an object of the module -/
def SqL (K : PySem.W.Frag) (H : Hp) (a : Addr) (xs : List V) : Prop :=
  Rd H a (.lst xs) ∨
    ∃ (o : Obj) (its : Array Value) (n : Nat), K.lookup a = some o ∧ o.cls = .type "list" ∧ o.dict = none ∧ o.data = .seq its n ∧ its.size ≤ sizeLine ∧ Vals xs its.toList
def SqT (K : PySem.W.Frag) (H : Hp) (a : Addr) (xs : List V) : Prop :=
  Rd H a (.tup xs) ∨
    ∃ (o : Obj) (its : Array Value) (n : Nat), K.lookup a = some o ∧ o.cls = .type "tuple" ∧ o.data = .seq its n ∧ its.size ≤ sizeLine ∧ Vals xs its.toList
def absV : Value → Option V
  | .none => some .non
  | .bool b => some (.bl b)
  | .int i _ => some (.int i)
  | .str x _ => some (.str x)
  | .bytes b _ => some (.byt b)
  | .float b _ => some (.flt b)
  | .ref a => some (.ref a)
  | .type n => some (.ty n)
  | _ => none
theorem RelV.abs {x : V} {u : Value} (r : RelV x u) : absV u = some x := by
  cases x with
  | non => cases r; rfl
  | bl _ => cases r; rfl
  | int _ => obtain ⟨t, rfl⟩ := r; rfl
  | str _ => obtain ⟨t, rfl⟩ := r; rfl
  | byt _ => obtain ⟨t, rfl⟩ := r; rfl
  | flt _ => obtain ⟨t, rfl⟩ := r; rfl
  | ref _ => cases r; rfl
  | ty _ => cases r; rfl
theorem RelV.inj {x y : V} {u : Value} (r : RelV x u) (q : RelV y u) : x = y := Option.some.inj (r.abs.symm.trans q.abs)
theorem Vals.inj : ∀ {xs ys : List V} {us : List Value}, Vals xs us → Vals ys us → xs = ys
  | _, _, _, .nil, .nil => rfl
  | _, _, _, .cons r t, .cons r' t' => by rw [r.inj r', Vals.inj t t']
section
variable {X : Cx} {pins : List (Addr × Obj)} {σ : St} {H : Hp} {s : Shared} {a : Addr} {xs ys : List V}
theorem SqL.of {K : PySem.W.Frag} (h : H a = some (.lst xs)) : SqL K H a xs := .inl (.inl h)
theorem SqT.of {K : PySem.W.Frag} (h : H a = some (.tup xs)) : SqT K H a xs := .inl (.inl h)
theorem Inv.list (I : Inv X pins σ H s) (h : SqL X.K H a xs) : ∃ its : List Value, Vals xs its ∧ PlainL s.heap a its.toArray ∧ xs.length ≤ sizeLine := by
  rcases h with h | ⟨o, its, n, hk, hc, hd, hs, hz, r⟩
  · obtain ⟨z, its, n, r, e⟩ := h.ok I.hok
    exact ⟨its, r, ⟨_, n, e, rfl, rfl, rfl⟩, z⟩
  · refine ⟨its.toList, r, ⟨o, n, I.kIn a o hk, hc, hd, by simpa using hs⟩, ?_⟩
    have e := r.length
    simp only [Array.length_toList] at e
    omega
theorem Inv.tuple (I : Inv X pins σ H s) (h : SqT X.K H a xs) : ∃ its : List Value, Vals xs its ∧ IsTup s.heap a its.toArray ∧ xs.length ≤ sizeLine := by
  rcases h with h | ⟨o, its, n, hk, hc, hs, hz, r⟩
  · obtain ⟨z, its, r, p⟩ := h.ok I.hok
    exact ⟨its, r, p, z⟩
  · refine ⟨its.toList, r, ⟨o, I.kIn a o hk, hc, n, by simpa using hs⟩, ?_⟩
    have e := r.length
    simp only [Array.length_toList] at e
    omega
theorem Inv.list_inj (I : Inv X pins σ H s) (h : SqL X.K H a xs) (h' : SqL X.K H a ys) : xs = ys := by
  obtain ⟨its, r, ⟨o, n, e, _, _, d⟩, _⟩ := I.list h
  obtain ⟨its', r', ⟨o', n', e', _, _, d'⟩, _⟩ := I.list h'
  rw [e] at e'; cases e'
  rw [d] at d'
  injection d' with d1 _
  have : its = its' := by simpa using congrArg Array.toList d1
  subst this
  exact r.inj r'
end

/-! ### another wish about exceptions -/
abbrev Cx.wish (X : Cx) (E : Value → Shared → Prop) : Cx := { X with xe := E }
/-- no exception leaves -/
abbrev Cx.nox (X : Cx) : Cx := X.wish fun _ _ => False
theorem Cx.Ok.wish {X : Cx} (ok : X.Ok) (E : Value → Shared → Prop) : (X.wish E).Ok :=
  ⟨ok.mod, ok.kind, ok.glob, ok.blt, ok.above, ok.inj, ok.has, ok.cab, ok.hd, ok.frames, ok.stk, ok.exf, ok.bs, ok.bsz, ok.noex, ok.exfs, ok.funs, ok.frf⟩
theorem Cx.Ok.unwish {X : Cx} {E : Value → Shared → Prop} (ok : (X.wish E).Ok) : X.Ok :=
  ⟨ok.mod, ok.kind, ok.glob, ok.blt, ok.above, ok.inj, ok.has, ok.cab, ok.hd, ok.frames, ok.stk, ok.exf, ok.bs, ok.bsz, ok.noex, ok.exfs, ok.funs, ok.frf⟩
section
variable {X : Cx} {pins : List (Addr × Obj)} {σ : St} {H : Hp} {s : Shared} {E : Value → Shared → Prop}
theorem Inv.wish (I : Inv X pins σ H s) (E : Value → Shared → Prop) : Inv (X.wish E) pins σ H s := ⟨I.ok.wish E, I.os, I.bare, I.base, I.loc, I.cell, I.free, I.freeC, I.pin, I.hok, I.len⟩
theorem Inv.unwish (I : Inv (X.wish E) pins σ H s) : Inv X pins σ H s := ⟨I.ok.unwish, I.os, I.bare, I.base, I.loc, I.cell, I.free, I.freeC, I.pin, I.hok, I.len⟩
theorem SP.unwish {D : Ends} {f : Flow} {s' : Shared} (h : SP (X.wish E) pins D f s') : SP X pins D f s' := by
  cases f with
  | next => obtain ⟨σ', H', I, q⟩ := h; exact ⟨σ', H', I.unwish, q⟩
  | brk => obtain ⟨σ', H', I, q⟩ := h; exact ⟨σ', H', I.unwish, q⟩
  | cont => obtain ⟨σ', H', I, q⟩ := h; exact ⟨σ', H', I.unwish, q⟩
  | ret u => obtain ⟨v, σ', H', I, r, q⟩ := h; exact ⟨v, σ', H', I.unwish, r, q⟩
theorem PSs.nox {st : List Stmt} {t : TS} (h : PSs X.nox st t) : PSs X st t := fun pins s σ H D I hw =>
  wpAny_mono (h pins s σ H D (I.wish _) hw) (fun _ _ q => q.unwish) fun _ _ z => False.elim z
end

/-! ### blocks and small statements -/
section
variable {X : Cx} {st : Stmt} {rest : List Stmt} {t u : TS} {e : Expr} {te : TE} {pos : Pos}
def tNext : TS := fun D σ H => D.nx σ H
def tSeq (t u : TS) : TS := fun D σ H => t { D with nx := u D } σ H
theorem pss_nil : PSs X [] tNext := fun _ _ σ H _ I h => wpAny_execs_nil ⟨σ, H, I, h⟩
theorem pss_cons (h1 : PS X st t) (h2 : PSs X rest u) : PSs X (st :: rest) (tSeq t u) := by
  intro pins s σ H D I h
  refine wpAny_execs_cons (thn (h1 pins s σ H { D with nx := u D } I h) fun f s1 q => ?_)
  cases f with
  | next =>
    obtain ⟨σ', H', I', q⟩ := q
    exact h2 pins s1 σ' H' D I' q
  | ret v => exact q
  | brk => exact q
  | cont => exact q
theorem pss_one (h1 : PS X st t) : PSs X [st] t := by
  intro pins s σ H D I h
  refine wpAny_execs_cons (thn (h1 pins s σ H D I h) fun f s1 q => ?_)
  cases f with
  | next => exact wpAny_execs_nil q
  | ret v => exact q
  | brk => exact q
  | cont => exact q
/-- in a def's body nothing is shown -/
theorem Inv.quiet {pins : List (Addr × Obj)} {σ : St} {H : Hp} {s : Shared} (I : Inv X pins σ H s) : interactive X.env = false := by simp [interactive, I.ok.kind]
/-- an expression whose value is dropped -/
def tDrop (te : TE) : TS := fun D σ H => te σ H fun _ H1 => D.nx σ H1
theorem ps_expr (he : PE X e te) (hs : swapsWith e none pos.line X.env = pure false := by rfl) : PS X (.Expr e pos) (tDrop te) := by
  intro pins s σ H D I h
  exact wpAny_Expr_any (thn (he pins s σ H _ I h) fun v s1 ⟨x, H1, I1, r1, q1⟩ => ⟨σ, H1, I1, q1⟩) I.quiet hs
def tRet (te : TE) : TS := fun D σ H => te σ H D.rt
theorem ps_ret (he : PE X e te) : PS X (.Return (some e) pos) (tRet te) := by
  intro pins s σ H D I h
  exact wpAny_Return_some (thn (he pins s σ H _ I h) fun v s1 ⟨x, H1, I1, r1, q1⟩ => ⟨x, σ, H1, I1, r1, q1⟩)
def tRetN : TS := fun D _ H => D.rt .non H
theorem ps_retN : PS X (.Return none pos) tRetN := fun _ _ σ H _ I h => wpAny_Return_none ⟨.non, σ, H, I, rfl, h⟩
def tIfS (c : TT) (t u : TS) : TS := fun D σ H => c σ H fun b H1 => if b = true then t D σ H1 else u D σ H1
theorem ps_if {c : Expr} {a b : List Stmt} {tc : TT} (hc : PT X c tc) (ha : PSs X a t) (hb : PSs X b u) : PS X (.If c a b pos) (tIfS tc t u) := by
  intro pins s σ H D I h
  refine wpAny_If (thn (hc pins s σ H _ I h) fun d s1 ⟨H1, I1, q1⟩ => ?_)
  cases d with
  | true => exact ha pins s1 σ H1 D I1 q1
  | false => exact hb pins s1 σ H1 D I1 q1
end

/-! ### targets -/
abbrev TG := V → St → Hp → (St → Hp → Prop) → Prop
abbrev TGs := List V → St → Hp → (St → Hp → Prop) → Prop
def PG (X : Cx) (target : Expr) (t : TG) : Prop :=
  ∀ (pins : List (Addr × Obj)) (s : Shared) (σ : St) (H : Hp) (v : V) (u : Value) (Q : St → Hp → Prop), Inv X pins σ H s → RelV v u → t v σ H Q →
    wpAny (model X.prog X.w) X.A (assign target X.env u) (fun _ s' => ∃ σ' H', Inv X pins σ' H' s' ∧ Q σ' H') X.xe s
/-- several targets, one after another -/
def PGs (X : Cx) (ts : List Expr) (t : TGs) : Prop :=
  ∀ (pins : List (Addr × Obj)) (s : Shared) (σ : St) (H : Hp) (vs : List V) (us : List Value) (Q : St → Hp → Prop), Inv X pins σ H s → Vals vs us → t vs σ H Q →
    wpAny (model X.prog X.w) X.A (assignInOrder ((assignEach ts X.env).map (·.2)) us) (fun _ s' => ∃ σ' H', Inv X pins σ' H' s' ∧ Q σ' H') X.xe s
/-- a op= b, by values -/
abbrev TIp := V → V → Hp → VK → Prop
def PIp (X : Cx) (op : Operator) (t : TIp) : Prop :=
  ∀ (pins : List (Addr × Obj)) (s : Shared) (σ : St) (H : Hp) (x y : V) (v u : Value) (Q : VK), Inv X pins σ H s → RelV x v → RelV y u → t x y H Q →
    wpAny (model X.prog X.w) X.A (inplaceOp op v u) (EP X pins σ Q) X.xe s
section
variable {X : Cx} {pos : Pos}
def gName (i : Nat) : TG := fun v σ H Q => Q (σ.set i (some v)) H
theorem pg_name {i : Nat} {x : Str} (hN : X.N.Nodup) (hi : X.N[i]? = some x) (hx : Loc X.env.scope x) (hf : X.fn x = true ∨ X.env.scope.names.lookup x = some .local := by first | exact .inl rfl | exact .inr rfl | assumption) : PG X (.Name x pos) (gName i) := by
  intro pins s σ H v u Q I r h
  exact wpAny_assign_Name (store_ok I hN hi hx r (fun s' I' => ⟨_, H, I', h⟩) hf)
def gNil : TGs := fun vs σ H Q => vs = [] ∧ Q σ H
def gCons (t : TG) (u : TGs) : TGs := fun vs σ H Q => ∃ v r, vs = v :: r ∧ t v σ H fun σ' H' => u r σ' H' Q
theorem pgs_nil : PGs X [] gNil := by
  intro pins s σ H vs us Q I r h
  obtain ⟨e, h⟩ := h
  subst e
  cases r
  exact assignInOrder_nil ⟨σ, H, I, h⟩
theorem pgs_cons {e : Expr} {es : List Expr} {t : TG} {u : TGs} (h1 : PG X e t) (h2 : PGs X es u)
    (hs : (assignEach (e :: es) X.env).map (·.2) = assign e X.env :: (assignEach es X.env).map (·.2) := by rfl) : PGs X (e :: es) (gCons t u) := by
  intro pins s σ H vs us Q I r h
  obtain ⟨v, vr, e1, h⟩ := h
  subst e1
  cases r with
  | cons r rr =>
    rw [hs]
    refine assignInOrder_cons (thn (h1 pins s σ H _ _ _ I r h) fun _ s1 ⟨σ1, H1, I1, q1⟩ => ?_)
    exact h2 pins s1 σ1 H1 _ _ Q I1 rr q1
/-- (a, b, ..) = a tuple of that length -/
def gTup (K : PySem.W.Frag) (n : Nat) (t : TGs) : TG := fun v σ H Q => ∃ a xs, v = .ref a ∧ SqT K H a xs ∧ xs.length = n ∧ t xs σ H Q
theorem pg_tup {es : List Expr} {k : Nat} {t : TGs} {n : Nat} (hc : X.calm = true) (h : PGs X es t)
    (hn : (assignEach es X.env).length = n := by rfl) (hst : (assignEach es X.env).findIdx? (·.1) = none := by rfl) : PG X (.Tuple es k pos) (gTup X.K n t) := by
  intro pins s σ H v u Q I r hw
  obtain ⟨a, xs, e1, hq, hl, hw⟩ := hw
  subst e1
  cases r
  obtain ⟨its, rv, ht, hz⟩ := I.tuple hq
  refine assign_Tuple_tuple (I.ok.hd hc) ht (by simp [hn, ← hl, rv.length]) hst fun h' hx => ?_
  have I1 : Inv X pins σ H { s with heap := h' } := I.kept (t' := s.toks) fun b o e => hx b o (Nat.ne_of_lt (Heap.lt_size e)) e
  exact h pins _ σ H xs _ Q I1 (by simpa using rv) hw
/-- target = value -/
def tAsg (te : TE) (g : TG) : TS := fun D σ H => te σ H fun x H1 => g x σ H1 D.nx
/-- name = value -/
theorem ps_set {i : Nat} {x : Str} {e : Expr} {te : TE} {pos' : Pos} (hN : X.N.Nodup) (hi : X.N[i]? = some x) (hx : Loc X.env.scope x) (he : PE X e te) (hs : swapsWith e (some (.Name x pos')) pos.line X.env = pure false := by rfl) (hf : X.fn x = true ∨ X.env.scope.names.lookup x = some .local := by first | exact .inl rfl | exact .inr rfl | assumption) :
    PS X (.Assign [.Name x pos'] e pos) (tAsg te (gName i)) := by
  intro pins s σ H D I h
  refine wpAny_Assign_Name (thn (he pins s σ H _ I h) fun v s1 ⟨y, H1, I1, r1, q1⟩ => ?_) hs
  exact store_ok I1 hN hi hx r1 (fun s2 I2 => ⟨_, H1, I2, q1⟩) hf
/-- name op= e -/
def tAug (i : Nat) (te : TE) (ti : TIp) : TS := fun D σ H => ∃ x, σ[i]? = some (some x) ∧ te σ H fun y H1 => ti x y H1 fun z H2 => D.nx (σ.set i (some z)) H2
theorem ps_aug {i : Nat} {x : Str} {e : Expr} {te : TE} {op : Operator} {ti : TIp} {pos' : Pos} (hN : X.N.Nodup) (hi : X.N[i]? = some x) (hx : Loc X.env.scope x) (he : PE X e te) (ho : PIp X op ti) (hf : X.fn x = true ∨ X.env.scope.names.lookup x = some .local := by first | exact .inl rfl | exact .inr rfl | assumption) :
    PS X (.AugAssign (.Name x pos') op e pos) (tAug i te ti) := by
  intro pins s σ H D I h
  obtain ⟨v, e1, h⟩ := h
  obtain ⟨m, hn, hl⟩ := I.loc
  have vis : Vis X.env.scope x := by rcases hx with k | k; exact .inl k; exact .inr (.inl k)
  obtain ⟨u, r, l⟩ := hl i x v hi e1 vis
  refine wpAny_AugAssign_Name ?_
  have go : wpAny (model X.prog X.w) X.A (eval e X.env) (fun w s₂ => wpAny (model X.prog X.w) X.A (inplaceOp op u w) (fun r s₃ => wpAny (model X.prog X.w) X.A (storeName X.env x r) (fun _ => SP X pins D .next) X.xe s₃) X.xe s₂) X.xe s := by
    refine thn (he pins s σ H _ I h) fun w s1 ⟨y, H1, I1, r1, q1⟩ => ?_
    refine thn (ho pins s1 σ H1 v y u w _ I1 r r1 q1) fun z s2 ⟨zv, H2, I2, r2, q2⟩ => ?_
    exact store_ok I2 hN hi hx r2 (fun s3 I3 => ⟨_, H2, I3, q2⟩) hf
  rcases l with ⟨hk, hm⟩ | ⟨hk, c, hc, hcell⟩
  · exact wpAny_loadName_local I.ok.kind hk hn hm go
  · rcases hk with hk | hk
    · exact wpAny_loadName_cell I.ok.kind hk hc hcell go
    · rcases hx with k | k
      · have : X.env.scope.names.lookup x = some .free := hk
        rw [k] at this; cases this
      · have : X.env.scope.names.lookup x = some .free := hk
        rw [k] at this; cases this
/-- ints -/
def ipI (f : Int → Int → Int) : TIp := fun x y H Q => ∃ i j, x = .int i ∧ y = .int j ∧ Q (.int (f i j)) H
theorem ip_sub : PIp X .Sub (ipI fun i j => i - j) := by
  intro pins s σ H x y v u Q I r1 r2 h
  obtain ⟨i, j, e1, e2, q⟩ := h
  subst e1; subst e2
  obtain ⟨t, rfl⟩ := r1
  obtain ⟨t', rfl⟩ := r2
  exact isub_int ⟨.int _, H, I.tok _, ⟨_, rfl⟩, q⟩
end

/-! ### while -/
section
variable {X : Cx} {pos : Pos}
/-- the invariant W with its measure -/
def tWhile (c : TT) (tb : TS) : TS := fun D σ H => ∃ W : Nat → St → Hp → Prop, (∃ m, W m σ H) ∧ ∀ m σ H, W m σ H →
  c σ H fun b H1 => if b = true then ∃ N : St → Hp → Prop, (∀ σ' H', N σ' H' → ∃ m', m' < m ∧ W m' σ' H') ∧ tb { D with nx := N, ct := N, bk := D.nx } σ H1 else D.nx σ H1
theorem ps_while {c : Expr} {body : List Stmt} {tc : TT} {tb : TS} (hp : PassesOwn (model X.prog X.w) X.A X.env X.xe) (hc : PT X c tc) (hb : PSs X body tb) : PS X (.While c body [] pos) (tWhile tc tb) := by
  intro pins s σ H D I h
  obtain ⟨W, ⟨m0, w0⟩, turn⟩ := h
  refine wpAny_While (codeAny_whileLoop (fun n s' => ∃ σ' H', Inv X pins σ' H' s' ∧ W n σ' H') ?_ m0 ⟨σ, H, I, w0⟩)
  rintro n s1 ⟨σ1, H1, I1, w1⟩
  refine wpAny_passesOwn hp (thn (hc pins s1 σ1 H1 _ I1 (turn n σ1 H1 w1)) fun b s2 ⟨H2, I2, q2⟩ => ?_)
  cases b with
  | true =>
    obtain ⟨N, hN, q2⟩ := q2
    rw [if_pos rfl]
    refine wpAny_passesOwn hp (thn (hb pins s2 σ1 H2 _ I2 q2) fun f s3 q3 => ?_)
    cases f with
    | next =>
      obtain ⟨σ3, H3, I3, n3⟩ := q3
      obtain ⟨m', hm, w3⟩ := hN σ3 H3 n3
      exact ⟨m', hm, σ3, H3, I3, w3⟩
    | cont =>
      obtain ⟨σ3, H3, I3, n3⟩ := q3
      obtain ⟨m', hm, w3⟩ := hN σ3 H3 n3
      exact ⟨m', hm, σ3, H3, I3, w3⟩
    | brk => exact q3
    | ret v => exact q3
  | false =>
    rw [if_neg Bool.false_ne_true]
    exact wpAny_execs_nil ⟨σ1, H2, I2, q2⟩
end

/-! ### what a loop or a comprehension walks -/
/-- at turn i: it yields x (the heap may grow), or it stops -/
structure It where
  go : Nat → Hp → Prop
  yld : Nat → Hp → V → Hp → Prop
  stop : Nat → Hp → Prop
/-- the iterator's own objects may turn: they are not the frame's, not pinned, younger than the entry (or a comprehension's own) -/
def FpOk (X : Cx) (pins : List (Addr × Obj)) (H : Hp) (b : Addr) : Prop :=
  H b = none ∧ b ≠ X.env.locals ∧ b ∉ X.fs ∧ (b ∈ X.ex ∨ X.s_0.heap.objs.size ≤ b) ∧ (∀ x c, X.env.cells.lookup x = some c → c ≠ b) ∧ ∀ p ∈ X.pn ++ pins, p.1 ≠ b
theorem Inv.fpOk {X : Cx} {pins : List (Addr × Obj)} {σ : St} {H H' : Hp} {s : Shared} {b : Addr} (I : Inv X pins σ H s) (hb : s.heap.objs.size ≤ b) (hn : H' b = none) : FpOk X pins H' b := by
  refine ⟨hn, Nat.ne_of_gt (Nat.lt_of_lt_of_le I.lt hb), I.nofs hb, .inr (Nat.le_trans I.sz hb), fun x c e z => ?_, fun p hp z => ?_⟩
  · obtain ⟨v, q⟩ := I.cell x c e
    exact absurd (Nat.lt_of_lt_of_le q.lt (by rw [z]; exact hb)) (Nat.lt_irrefl _)
  · exact absurd (Nat.lt_of_lt_of_le (Heap.lt_size (I.pin p hp).1) (by rw [z]; exact hb)) (Nat.lt_irrefl _)
structure Turn (P : Program) (w : World) (K : PySem.W.Frag) (tg : Expr) (J : It) (fp : List Addr) (it : Addr) (tn : Nat → Heap → Prop) : Prop where
  mem : it ∈ fp
  obj : ∀ i h, tn i h → ∀ b ∈ fp, ∃ o, h.get? b = some o ∧ ∀ v, o.data ≠ .cell v
  keep : ∀ i h h', tn i h → (∀ b ∈ fp, ∀ o, h.get? b = some o → h'.get? b = some o) → tn i h'
  item : ∀ (X : Cx), X.prog = P → X.w = w → X.K = K → X.calm = true → ∀ (i : Nat) (pins : List (Addr × Obj)) (s : Shared) (σ : St) (H : Hp) (E : Value → Shared → Prop), Inv X pins σ H s → (∀ b ∈ fp, FpOk X pins H b) → tn i s.heap → J.go i H →
    wpAny (model P w) X.A (pyNext (.ref it)) (fun r s1 => ∃ u, r = some u ∧
      wpAny (model P w) X.A (letOwnedTupleGo tg (.ref it) u) (fun _ s2 => ∃ x H', Inv X pins σ H' s2 ∧ RelV x u ∧ J.yld i H x H' ∧ tn (i + 1) s2.heap ∧ ∀ b ∈ fp, H' b = none) E s1) E s
  done : ∀ (X : Cx), X.prog = P → X.w = w → X.K = K → X.calm = true → ∀ (i : Nat) (pins : List (Addr × Obj)) (s : Shared) (σ : St) (H : Hp) (E : Value → Shared → Prop), Inv X pins σ H s → (∀ b ∈ fp, FpOk X pins H b) → tn i s.heap → J.stop i H →
    wpAny (model P w) X.A (pyNext (.ref it)) (fun r s1 => r = none ∧ Inv X pins σ H s1) E s
  self : ∀ (A : Around) (i : Nat) (s : Shared) (Q : Value → Shared → Prop) (E : Value → Shared → Prop), tn i s.heap → Q (.ref it) s → wpAny (model P w) A (pyIter (.ref it)) Q E s
abbrev TI := St → Hp → (It → Hp → Prop) → Prop
/-- an iterator has come -/
def PIE (X : Cx) (pins : List (Addr × Obj)) (σ : St) (tg : Expr) (R : It → Hp → Prop) (itv : Value) (s2 : Shared) : Prop :=
  ∃ (it : Addr) (fp : List Addr) (tn : Nat → Heap → Prop) (J : It) (H' : Hp), itv = .ref it ∧ Inv X pins σ H' s2 ∧ Turn X.prog X.w X.K tg J fp it tn ∧ tn 0 s2.heap ∧ (∀ b ∈ fp, FpOk X pins H' b) ∧ R J H'
def PI (X : Cx) (tg iter : Expr) (wi : TI) : Prop :=
  ∀ (pins : List (Addr × Obj)) (s : Shared) (σ : St) (H : Hp) (R : It → Hp → Prop), Inv X pins σ H s → wi σ H R →
    wpAny (model X.prog X.w) X.A (eval iter X.env) (fun v s1 => wpAny (model X.prog X.w) X.A (pyIter v) (PIE X pins σ tg R) X.xe s1) X.xe s

/-- the step ahead of the store is nothing for an iterator that keeps no tuple -/
theorem go_of {M : Model} {A : Around} {E : Value → Shared → Prop} {s : Shared} {tg : Expr} {it : Addr} {u : Value} {o : Obj} {n : String} {vs : Array Value} {Q : Unit → Shared → Prop} (ho : s.heap.get? it = some o) (hc : o.cls = .type n) (hd : o.data = .fields vs)
    (hn : ["enumerate", "zip", "dict_itemiterator", "dict_reverseitemiterator", "odict_iterator", "itertools.zip_longest", "itertools.pairwise"].contains n = false) (hQ : Q () s) : wpAny M A (letOwnedTupleGo tg (.ref it) u) Q E s := by
  unfold letOwnedTupleGo
  cases tg <;> first
    | exact wpAny_pure hQ
    | (cases u <;> first
        | exact wpAny_pure hQ
        | (refine wpAny_bind (wpAny_load ho ?_)
           rw [hc, hd]
           show wpAny M A (if (["enumerate", "zip", "dict_itemiterator", "dict_reverseitemiterator", "odict_iterator", "itertools.zip_longest", "itertools.pairwise"].contains n && vs[0]? == some (rawInt _)) = true then _ else _) Q E s
           rw [if_neg (by intro h; rw [hn, Bool.false_and] at h; cases h)]
           exact wpAny_pure hQ))

/-- the list at a, as it stands at each turn (a loop may append to it) -/
def Itl (K : PySem.W.Frag) (a : Addr) : It :=
  ⟨fun i H => ∃ xs x, SqL K H a xs ∧ xs[i]? = some x, fun i H x H' => H' = H ∧ ∀ xs, SqL K H a xs → xs[i]? = some x, fun i H => ∃ xs, SqL K H a xs ∧ xs.length ≤ i⟩
/-- lo, lo + 1, .. (n of them) -/
def Itr (lo : Int) (n : Nat) : It := ⟨fun i _ => i < n, fun i H x H' => H' = H ∧ x = .int (lo + i), fun i _ => n ≤ i⟩
theorem turn_list {P : Program} {w : World} {K : PySem.W.Frag} {tg : Expr} (a it : Addr) : Turn P w K tg (Itl K a) [it] it (fun i h => h.IsListIter it a i) where
  mem := by simp
  obj := fun i h st b hb => by
    have e : b = it := by simpa using hb
    subst e
    obtain ⟨o, e, c, d⟩ := st
    exact ⟨o, e, fun v z => by rw [d] at z; cases z⟩
  keep := fun i h h' st k => st.at fun o e => k it (by simp) o e
  item := by
    intro X hP hw hK hc i pins s σ H E I hf st hg
    subst hP hw hK
    obtain ⟨xs, x, hq, hx⟩ := hg
    obtain ⟨its, rv, p, hz⟩ := I.list hq
    obtain ⟨u, hu, ru⟩ := rv.get hx
    obtain ⟨f0, f1, f2, f3, f4, f5⟩ := hf it (by simp)
    refine wpAny_pyNext_list_item st p.isList (x := u) (by simpa using hu) fun h' st' sb => ?_
    have I1 : Inv X pins σ H { s with heap := h' } := I.turned (t' := s.toks) (fun b o hb e => (sb.2 b hb).trans e) f0 f1 f3 f4 f5
    obtain ⟨o, e, c, d⟩ := id st'
    exact ⟨u, rfl, go_of (s := { s with heap := h' }) e c d (by decide) ⟨x, H, I1, ru, ⟨rfl, fun ys hy => by rw [I.list_inj hy hq]; exact hx⟩, st', fun b hb => (hf b hb).1⟩⟩
  done := by
    intro X hP hw hK hc i pins s σ H E I hf st hg
    subst hP hw hK
    obtain ⟨xs, hq, hx⟩ := hg
    obtain ⟨its, rv, p, hz⟩ := I.list hq
    obtain ⟨f0, f1, f2, f3, f4, f5⟩ := hf it (by simp)
    have hl := rv.length
    exact wpAny_pyNext_list_end (I.ok.hd hc) st p.isList (by simp; omega) fun h' eb => ⟨rfl, I.turned (t' := s.toks) (fun b o hb e => eb b o hb e) f0 f1 f3 f4 f5⟩
  self := fun _ _ _ _ _ st h => wpAny_pyIter_listiter st h
theorem turn_range {P : Program} {w : World} {K : PySem.W.Frag} {tg : Expr} (it : Addr) (lo : Int) (n : Nat) : Turn P w K tg (Itr lo n) [it] it (fun i h => IsRangeIter h it (lo + (i : Nat) * 1) ((n : Int) - (i : Nat)) 1) where
  mem := by simp
  obj := fun i h st b hb => by
    have e : b = it := by simpa using hb
    subst e
    exact ⟨_, st, fun v z => by
      have z' : Data.fields _ = Data.cell v := z
      cases z'⟩
  keep := fun i h h' st k => k it (by simp) _ st
  item := by
    intro X hP hw hK hc i pins s σ H E I hf st hg
    subst hP hw hK
    obtain ⟨f0, f1, f2, f3, f4, f5⟩ := hf it (by simp)
    have W := Walks.range (prog := X.prog) (w := X.w) (I.ok.hd hc) it lo 1 n
    refine W.item i s _ _ hg st fun v h' tk hv st' kk => ?_
    obtain ⟨t, rfl⟩ := hv
    have I1 : Inv X pins σ H { s with heap := h', toks := tk } := I.turned (fun b o hb e => kk b o (by simpa using hb) e) f0 f1 f3 f4 f5
    refine ⟨_, rfl, go_of (s := { s with heap := h', toks := tk }) (n := "range_iterator") st' rfl rfl (by decide) ⟨.int (lo + i), H, I1, ⟨t, ?_⟩, ⟨rfl, rfl⟩, st', fun b hb => (hf b hb).1⟩⟩
    rw [Int.mul_one]
  done := by
    intro X hP hw hK hc i pins s σ H E I hf st hg
    subst hP hw hK
    obtain ⟨f0, f1, f2, f3, f4, f5⟩ := hf it (by simp)
    exact wpAny_pyNext_range_end (I.ok.hd hc) st (by have : n ≤ i := hg; omega) fun h' eb => ⟨rfl, I.turned (t' := s.toks) (fun b o hb e => eb b o hb e) f0 f1 f3 f4 f5⟩
  self := fun _ _ _ _ _ st h => wpAny_pyIter_rangeiter st h
end L2

namespace L2
open PySem PySem.Spec PyProof.Rows
section
variable {X : Cx} {tg : Expr}
def iList (K : PySem.W.Frag) (tl : TE) : TI := fun σ H R => tl σ H fun x H1 => ∃ a, x = .ref a ∧ (∃ xs, SqL K H1 a xs) ∧ R (Itl K a) H1
theorem pi_list {l : Expr} {tl : TE} (hl : PE X l tl) : PI X tg l (iList X.K tl) := by
  intro pins s σ H R I h
  refine thn (hl pins s σ H _ I h) fun v s1 ⟨x, H1, I1, r1, q1⟩ => ?_
  obtain ⟨a, e, ⟨xs, hq⟩, q⟩ := q1
  subst e
  cases r1
  obtain ⟨its, rv, p, hz⟩ := I1.list hq
  refine wpAny_pyIter_list p.isList ?_
  refine ⟨s1.heap.objs.size, [s1.heap.objs.size], _, _, H1, rfl, I1.kept (t' := s1.toks) fun b o e => Heap.get?_push_of_some _ e, turn_list a _, ⟨_, Heap.get?_push_size _ rfl, rfl, rfl⟩, fun b hb => ?_, q⟩
  have e : b = s1.heap.objs.size := by simpa using hb
  subst e
  exact I1.fpOk (Nat.le_refl _) (I1.hok.fresh (Nat.le_refl _))
/-- a range object just made, walked -/
theorem range_it {pins : List (Addr × Obj)} {σ : St} {H : Hp} {s : Shared} {R : It → Hp → Prop} {E : Value → Shared → Prop} {lo hi : Int} {t u v : Tok} {tk : Nat} (I : Inv X pins σ H s) (h1 : -(2 ^ 62) ≤ lo) (h2 : lo < 2 ^ 62) (h3 : -(2 ^ 62) ≤ hi) (h4 : hi < 2 ^ 62)
    (q : R (Itr lo (hi - lo).toNat) H) : wpAny (model X.prog X.w) X.A (pyIter (.ref s.heap.objs.size)) (PIE X pins σ tg R) E { s with heap := s.heap.push { cls := .type "range", data := .fields #[.int lo t, .int hi u, .int 1 v] }, toks := tk } := by
  refine wpAny_pyIter_range (IsRange.new ..) (small_one h1 h2 h3 h4) ?_
  have I1 : Inv X pins σ H { s with heap := s.heap.push { cls := .type "range", data := .fields #[.int lo t, .int hi u, .int 1 v] }, toks := tk } := I.kept fun b o e => Heap.get?_push_of_some _ e
  refine ⟨(s.heap.push { cls := .type "range", data := .fields #[.int lo t, .int hi u, .int 1 v] }).objs.size, [(s.heap.push { cls := .type "range", data := .fields #[.int lo t, .int hi u, .int 1 v] }).objs.size], _, _, H, rfl,
    I1.kept (t' := tk) fun b o e => Heap.get?_push_of_some _ e, turn_range _ lo (hi - lo).toNat, ?_, fun b hb => ?_, q⟩
  · have e1 : lo + ((0 : Nat) : Int) * 1 = lo := by simp
    have e2 : (((hi - lo).toNat : Nat) : Int) - ((0 : Nat) : Int) = Builtin.Range.rangeSize lo hi 1 := by rw [rangeSize_one]; split <;> omega
    show IsRangeIter _ _ (lo + ((0 : Nat) : Int) * 1) ((((hi - lo).toNat : Nat) : Int) - ((0 : Nat) : Int)) 1
    rw [e1, e2]
    exact Heap.get?_push_size _ rfl
  · have e : b = (s.heap.push { cls := .type "range", data := .fields #[.int lo t, .int hi u, .int 1 v] }).objs.size := by simpa using hb
    subst e
    exact I1.fpOk (Nat.le_refl _) (I1.hok.fresh (Nat.le_refl _))
def iRng1 (ta : TA) : TI := fun σ H R => ta σ H fun vs H1 => ∃ j : Int, vs = [.int j] ∧ -(2 ^ 62) ≤ j ∧ j < 2 ^ 62 ∧ R (Itr 0 j.toNat) H1
theorem pi_range1 {a : Expr} {ta : TA} {p pos : Pos} (hg : Gl X "range") (hm : X.mg "range" = none) (ha : PA X [a] ta) (hs : starEach [a] X.env = [(false, eval a X.env)] := by rfl) : PI X tg (.Call (.Name "range" p) [a] [] pos) (iRng1 ta) := by
  intro pins s σ H R I h
  refine Call_ (ld_blt I hg hm boot_range (PyProof.Rows.callWith_type1 (thn (ha pos pins s σ H _ I h) fun us s1 ⟨vs, H1, I1, r1, q1⟩ => ?_) hs rfl))
  obtain ⟨j, e, q1, q2, q⟩ := q1
  subst e
  cases r1 with
  | cons r rr =>
    cases rr
    obtain ⟨t, rfl⟩ := r
    exact call_range_1 (range_it I1 (by omega) (by omega) q1 q2 (by simpa using q))
/-! ### for -/
/-- W: the invariant by the turn and a measure; N: what the body is to reach -/
def tFor (wi : TI) (g : TG) (tb : TS) : TS := fun D σ H => wi σ H fun J H1 => ∃ W : Nat → Nat → St → Hp → Prop, (∃ m, W 0 m σ H1) ∧ ∀ i m σ H, W i m σ H →
  (J.stop i H ∧ D.nx σ H) ∨ (J.go i H ∧ ∃ N : St → Hp → Prop, (∀ σ' H', N σ' H' → ∃ m', m' < m ∧ W (i + 1) m' σ' H') ∧ ∀ x H', J.yld i H x H' → g x σ H' fun σ2 H2 => tb { D with nx := N, ct := N, bk := D.nx } σ2 H2)
/-- the records at fp as they stand -/
def pinsAt (fp : List Addr) (h : Heap) : List (Addr × Obj) := fp.filterMap fun b => (h.get? b).map fun o => (b, o)
theorem mem_pinsAt {fp : List Addr} {h : Heap} {b : Addr} {o : Obj} (hb : b ∈ fp) (e : h.get? b = some o) : (b, o) ∈ pinsAt fp h := List.mem_filterMap.mpr ⟨b, hb, by rw [e]; rfl⟩
theorem of_pinsAt {fp : List Addr} {h : Heap} {p : Addr × Obj} (hp : p ∈ pinsAt fp h) : p.1 ∈ fp ∧ h.get? p.1 = some p.2 := by
  obtain ⟨b, hb, e⟩ := List.mem_filterMap.mp hp
  cases q : h.get? b with
  | none => rw [q] at e; cases e
  | some o =>
    rw [q] at e
    have e' : (b, o) = p := Option.some.inj e
    subst e'
    exact ⟨hb, q⟩
theorem Inv.pinned {pins : List (Addr × Obj)} {σ : St} {H : Hp} {s : Shared} {fp : List Addr} (I : Inv X pins σ H s) (hf : ∀ b ∈ fp, FpOk X pins H b) (ho : ∀ b ∈ fp, ∃ o, s.heap.get? b = some o ∧ ∀ v, o.data ≠ .cell v) : Inv X (pins ++ pinsAt fp s.heap) σ H s :=
  I.pins_of fun p hp => (List.mem_append.mp hp).elim (fun z => I.pin p (List.mem_append_right _ z)) fun z => by
    obtain ⟨hb, e⟩ := of_pinsAt z
    obtain ⟨f0, f1, f2, _⟩ := hf p.1 hb
    obtain ⟨o, e', d⟩ := ho p.1 hb
    rw [e] at e'; cases e'
    exact ⟨e, f0, f1, f2, d⟩
theorem Inv.unpinned {pins pl : List (Addr × Obj)} {σ : St} {H : Hp} {s : Shared} (I : Inv X (pins ++ pl) σ H s) : Inv X pins σ H s := I.pins_of fun p hp => I.pin p (List.mem_append_right _ (List.mem_append_left _ hp))
theorem ps_for {iter : Expr} {body : List Stmt} {wi : TI} {g : TG} {tb : TS} {pos : Pos} (hp : PassesOwn (model X.prog X.w) X.A X.env X.xe) (hc : X.calm = true) (hi : PI X tg iter wi) (hg : PG X tg g) (hb : PSs X body tb)
    (hs : ∀ x, foldedSetIterable iter X.env x = pure x := by intro _; rfl) : PS X (.For tg iter body [] pos) (tFor wi g tb) := by
  intro pins s σ H D I h
  refine wpAny_For (thn (hi pins s σ H _ I h) fun v s1 h1 => thn h1 fun itv s2 h2 => ?_) hs
  obtain ⟨it, fp, tn, J, H2, e, I2, T, st2, f2, W, ⟨m0, w0⟩, turn⟩ := h2
  subst e
  -- what stays true of the iterator's objects through the loop
  have stat : ∀ {H' : Hp}, (∀ b ∈ fp, H' b = none) → ∀ b ∈ fp, FpOk X pins H' b := fun hn b hb => ⟨hn b hb, (f2 b hb).2⟩
  refine codeAny_forLoop_any (fun n s' => ∃ i σ' H', Inv X pins σ' H' s' ∧ tn i s'.heap ∧ (∀ b ∈ fp, H' b = none) ∧ W i n σ' H') ?_ m0 ⟨0, σ, H2, I2, st2, fun b hb => (f2 b hb).1, w0⟩
  rintro n s3 ⟨i, σ3, H3, I3, st3, fr3, w3⟩
  rcases turn i n σ3 H3 w3 with ⟨stop, qn⟩ | ⟨go, N, hN, step⟩
  · refine wpAny_passesOwn hp (thn (T.done X rfl rfl rfl hc i pins s3 σ3 H3 X.xe I3 (stat fr3) st3 stop) fun r s4 ⟨hr, I4⟩ => ?_)
    subst hr
    exact wpAny_execs_nil ⟨σ3, H3, I4, qn⟩
  · refine wpAny_passesOwn hp (thn (T.item X rfl rfl rfl hc i pins s3 σ3 H3 X.xe I3 (stat fr3) st3 go) fun r s4 ⟨u, hr, h4⟩ => ?_)
    subst hr
    refine wpAny_passesOwn hp (thn h4 fun _ s5 ⟨x, H5, I5, r5, y5, st5, fr5⟩ => ?_)
    have I5' := I5.pinned (stat fr5) (T.obj _ _ st5)
    refine wpAny_passesOwn hp (thn (hg _ s5 σ3 H5 x u _ I5' r5 (step x H5 y5)) fun _ s6 ⟨σ6, H6, I6, q6⟩ => ?_)
    refine wpAny_passesOwn hp (thn (hb _ s6 σ6 H6 _ I6 q6) fun f s7 q7 => ?_)
    have again : ∀ {σ7 : St} {H7 : Hp}, Inv X (pins ++ pinsAt fp s5.heap) σ7 H7 s7 → N σ7 H7 → ∃ m, m < n ∧ ∃ i σ' H', Inv X pins σ' H' s7 ∧ tn i s7.heap ∧ (∀ b ∈ fp, H' b = none) ∧ W i m σ' H' := fun {σ7 H7} I7 n7 => by
      obtain ⟨m', hm, w7⟩ := hN σ7 H7 n7
      refine ⟨m', hm, i + 1, σ7, H7, I7.unpinned, T.keep _ _ _ st5 fun b hb o e => (I7.pin (b, o) (List.mem_append_right _ (List.mem_append_right _ (mem_pinsAt hb e)))).1, fun b hb => ?_, w7⟩
      obtain ⟨o, e, d⟩ := T.obj _ _ st5 b hb
      exact (I7.pin (b, o) (List.mem_append_right _ (List.mem_append_right _ (mem_pinsAt hb e)))).2.1
    cases f with
    | next => obtain ⟨σ7, H7, I7, n7⟩ := q7; exact again I7 n7
    | cont => obtain ⟨σ7, H7, I7, n7⟩ := q7; exact again I7 n7
    | brk => obtain ⟨σ7, H7, I7, q7⟩ := q7; exact ⟨σ7, H7, I7.unpinned, q7⟩
    | ret v => obtain ⟨x7, σ7, H7, I7, r7, q7⟩ := q7; exact ⟨x7, σ7, H7, I7.unpinned, r7, q7⟩
end

/-! ### the forms one uses -/
/-- over a list that the body leaves as it is -/
theorem for_list {K : PySem.W.Frag} {a : Addr} {xs : List V} {g : TG} {tb : TS} {D : Ends} {σ : St} {H : Hp} (Pv : Nat → St → Hp → Prop) (h0 : Pv 0 σ H) (hl : ∀ i σ H, i ≤ xs.length → Pv i σ H → SqL K H a xs)
    (hs : ∀ i x σ H, xs[i]? = some x → Pv i σ H → g x σ H fun σ2 H2 => tb { D with nx := Pv (i + 1), ct := Pv (i + 1), bk := D.nx } σ2 H2) (hd : ∀ σ H, Pv xs.length σ H → D.nx σ H) :
    ∃ W : Nat → Nat → St → Hp → Prop, (∃ m, W 0 m σ H) ∧ ∀ i m σ H, W i m σ H →
      ((Itl K a).stop i H ∧ D.nx σ H) ∨ ((Itl K a).go i H ∧ ∃ N : St → Hp → Prop, (∀ σ' H', N σ' H' → ∃ m', m' < m ∧ W (i + 1) m' σ' H') ∧ ∀ x H', (Itl K a).yld i H x H' → g x σ H' fun σ2 H2 => tb { D with nx := N, ct := N, bk := D.nx } σ2 H2) := by
  refine ⟨fun i m σ H => m = xs.length - i ∧ i ≤ xs.length ∧ Pv i σ H, ⟨xs.length, by simp, Nat.zero_le _, h0⟩, ?_⟩
  rintro i m σ H ⟨rfl, hi, p⟩
  have q := hl i σ H hi p
  by_cases hlt : i < xs.length
  · refine .inr ⟨⟨xs, xs[i], q, by simp [hlt]⟩, Pv (i + 1), fun σ' H' p' => ⟨xs.length - (i + 1), by omega, rfl, hlt, p'⟩, fun x H' y => ?_⟩
    obtain ⟨e, y⟩ := y
    subst e
    exact hs i x σ _ (y xs q) p
  · have e : i = xs.length := by omega
    subst e
    exact .inl ⟨⟨xs, q, Nat.le_refl _⟩, hd σ H p⟩
end L2

namespace L2
open PySem PySem.Spec PyProof.Rows

abbrev R2 := V → V → Hp → VK → Prop
/-- a two-place operation on values: f is binaryOp op, inplaceOp op or compareOp op -/
def OpR (X : Cx) (f : Value → Value → Sem Value) (r : R2) : Prop :=
  ∀ (pins : List (Addr × Obj)) (s : Shared) (σ : St) (H : Hp) (x y : V) (v u : Value) (Q : VK), Inv X pins σ H s → RelV x v → RelV y u → r x y H Q →
    wpAny (model X.prog X.w) X.A (f v u) (EP X pins σ Q) X.xe s
/-- a one-place operation -/
def UnR (X : Cx) (f : Value → Sem Value) (r : V → Hp → VK → Prop) : Prop :=
  ∀ (pins : List (Addr × Obj)) (s : Shared) (σ : St) (H : Hp) (x : V) (v : Value) (Q : VK), Inv X pins σ H s → RelV x v → r x H Q →
    wpAny (model X.prog X.w) X.A (f v) (EP X pins σ Q) X.xe s
/-- a call of a value that is known (a builtin, a type) with values -/
def CallR (X : Cx) (f : Value) (r : List V → Hp → VK → Prop) : Prop :=
  ∀ (pins : List (Addr × Obj)) (s : Shared) (σ : St) (H : Hp) (xs : List V) (us : List Value) (Q : VK), Inv X pins σ H s → Vals xs us → r xs H Q →
    wpAny (model X.prog X.w) X.A (call f us) (EP X pins σ Q) X.xe s
def tOp (r : R2) (ta tb : TE) : TE := fun σ H Q => ta σ H fun x H1 => tb σ H1 fun y H2 => r x y H2 Q
def tUn (r : V → Hp → VK → Prop) (ta : TE) : TE := fun σ H Q => ta σ H fun x H1 => r x H1 Q
/-- ints in, under C, and a value out -/
def rI (C : Int → Int → Prop) (g : Int → Int → V) : R2 := fun x y H Q => ∃ i j, x = .int i ∧ y = .int j ∧ C i j ∧ Q (g i j) H
def rI0 (g : Int → Int → V) : R2 := fun x y H Q => ∃ i j, x = .int i ∧ y = .int j ∧ Q (g i j) H
def rU (g : Int → V) : V → Hp → VK → Prop := fun x H Q => ∃ i, x = .int i ∧ Q (g i) H

section
variable {X : Cx} {a b c : Expr} {ta tb tc : TE} {pos : Pos}

theorem binT (ha : PE X a ta) (hb : PE X b tb) {pins : List (Addr × Obj)} {s : Shared} {σ : St} {H : Hp} {R : V → V → Hp → Prop} (I : Inv X pins σ H s)
    (h : ta σ H fun x H1 => tb σ H1 fun y H2 => R x y H2) {Q : Value → Shared → Prop} {f : Value → Value → Sem Value}
    (hf : ∀ v u s2 x y H2, Inv X pins σ H2 s2 → RelV x v → RelV y u → R x y H2 → wpAny (model X.prog X.w) X.A (f v u) Q X.xe s2) :
    wpAny (model X.prog X.w) X.A (eval a X.env) (fun v s₁ => wpAny (model X.prog X.w) X.A (eval b X.env) (fun u s₂ => wpAny (model X.prog X.w) X.A (f v u) Q X.xe s₂) X.xe s₁) X.xe s := by
  refine thn (ha pins s σ H _ I h) fun v s1 ⟨x, H1, I1, r1, q1⟩ => ?_
  refine thn (hb pins s1 σ H1 _ I1 q1) fun u s2 ⟨y, H2, I2, r2, q2⟩ => ?_
  exact hf v u s2 x y H2 I2 r1 r2 q2

theorem pe_op {op : Operator} {r : R2} (ho : OpR X (binaryOp op) r) (ha : PE X a ta) (hb : PE X b tb) : PE X (.BinOp a op b pos) (tOp r ta tb) := by
  intro pins s σ H Q I h
  exact wpAny_BinOp (binT ha hb I h fun v u s2 x y H2 I2 rx ry q => ho pins s2 σ H2 x y v u Q I2 rx ry q)
theorem pe_un {op : UnaryOp} {r : V → Hp → VK → Prop} (ho : UnR X (unaryOp op) r) (ha : PE X a ta) : PE X (.UnaryOp op a pos) (tUn r ta) := by
  intro pins s σ H Q I h
  exact UnaryOp_ (thn (ha pins s σ H _ I h) fun v s1 ⟨x, H1, I1, r1, q1⟩ => ho pins s1 σ H1 x v Q I1 r1 q1)
/-! ### ints -/
theorem opI {f : Value → Value → Sem Value} {C : Int → Int → Prop} {g : Int → Int → Int}
    (rule : ∀ (i j : Int) (t u : Tok) (s : Shared) (Q : Value → Shared → Prop) (E : Value → Shared → Prop), C i j → Q (.int (g i j) s.toks) { s with toks := s.toks + 1 } → wpAny (model X.prog X.w) X.A (f (.int i t) (.int j u)) Q E s) :
    OpR X f (rI C fun i j => .int (g i j)) := by
  intro pins s σ H x y v u Q I rx ry h
  obtain ⟨i, j, rfl, rfl, hc, q⟩ := h
  obtain ⟨t, rfl⟩ := rx
  obtain ⟨t', rfl⟩ := ry
  exact rule i j t t' s _ _ hc ⟨.int (g i j), H, I.tok _, ⟨_, rfl⟩, q⟩
theorem opI0 {f : Value → Value → Sem Value} {g : Int → Int → Int}
    (rule : ∀ (i j : Int) (t u : Tok) (s : Shared) (Q : Value → Shared → Prop) (E : Value → Shared → Prop), Q (.int (g i j) s.toks) { s with toks := s.toks + 1 } → wpAny (model X.prog X.w) X.A (f (.int i t) (.int j u)) Q E s) :
    OpR X f (rI0 fun i j => .int (g i j)) := by
  intro pins s σ H x y v u Q I rx ry h
  obtain ⟨i, j, rfl, rfl, q⟩ := h
  obtain ⟨t, rfl⟩ := rx
  obtain ⟨t', rfl⟩ := ry
  exact rule i j t t' s _ _ ⟨.int (g i j), H, I.tok _, ⟨_, rfl⟩, q⟩
theorem opB0 {f : Value → Value → Sem Value} {g : Int → Int → Bool}
    (rule : ∀ (i j : Int) (t u : Tok) (s : Shared) (Q : Value → Shared → Prop) (E : Value → Shared → Prop), Q (.bool (g i j)) s → wpAny (model X.prog X.w) X.A (f (.int i t) (.int j u)) Q E s) :
    OpR X f (rI0 fun i j => .bl (g i j)) := by
  intro pins s σ H x y v u Q I rx ry h
  obtain ⟨i, j, rfl, rfl, q⟩ := h
  obtain ⟨t, rfl⟩ := rx
  obtain ⟨t', rfl⟩ := ry
  exact rule i j t t' s _ _ ⟨.bl (g i j), H, I, rfl, q⟩

def CMul (i j : Int) : Prop := (-(2 ^ 64) < i ∧ i < 2 ^ 64) ∨ (-(2 ^ 64) < j ∧ j < 2 ^ 64)
theorem CMul.ok {i j : Int} (h : CMul i j) : IntMulOk i j := by
  rcases h with ⟨h1, h2⟩ | ⟨h1, h2⟩
  · exact .of_left (intBits_le_64 h1 h2)
  · exact .of_right (intBits_le_64 h1 h2)
theorem two_pow_nn (k : Nat) : (0 : Int) ≤ 2 ^ k := by
  rw [two_pow_cast]
  exact Int.natCast_nonneg _

theorem op_add : OpR X (binaryOp .Add) (rI0 fun i j => .int (i + j)) := opI0 fun _ _ _ _ _ _ _ q => add_int q
theorem op_sub : OpR X (binaryOp .Sub) (rI0 fun i j => .int (i - j)) := opI0 fun _ _ _ _ _ _ _ q => sub_int q
theorem op_mul : OpR X (binaryOp .Mult) (rI CMul fun i j => .int (i * j)) := opI fun _ _ _ _ _ _ _ hc q => mul_int q hc.ok
/-- % by a positive divisor of any size -/
theorem op_mod : OpR X (binaryOp .Mod) (rI (fun _ j => 0 < j) fun i j => .int (i % j)) := opI fun i j _ _ _ _ _ hc q => by
  have h1 : (0 : Int) < j := hc
  exact mod_int' (by omega) (by rw [Int.fmod_eq_emod_of_nonneg i (by omega)]; exact q)
theorem op_shr : OpR X (binaryOp .RShift) (rI (fun _ j => 0 ≤ j) fun i j => .int (i / 2 ^ j.toNat)) := opI fun i j _ _ _ _ _ hc q =>
  rshift_int hc (by rw [Int.fdiv_eq_ediv_of_nonneg i (two_pow_nn _)]; exact q)
theorem unI {f : Value → Sem Value} {g : Int → Int}
    (rule : ∀ (i : Int) (t : Tok) (s : Shared) (Q : Value → Shared → Prop) (E : Value → Shared → Prop), Q (.int (g i) s.toks) { s with toks := s.toks + 1 } → wpAny (model X.prog X.w) X.A (f (.int i t)) Q E s) :
    UnR X f (rU fun i => .int (g i)) := by
  intro pins s σ H x v Q I rx h
  obtain ⟨i, rfl, q⟩ := h
  obtain ⟨t, rfl⟩ := rx
  exact rule i t s _ _ ⟨.int (g i), H, I.tok _, ⟨_, rfl⟩, q⟩
theorem un_neg : UnR X (unaryOp .USub) (rU fun i => .int (-i)) := unI fun _ _ _ _ _ q => neg_int q
/-! ### bools among ints: n += (a < b) -/
end

/-! ### comparisons -/
/-- the scalars that == tells apart as data does -/
def scal : V → V → Bool
  | .non, .non => true | .non, .int _ => true | .int _, .non => true | .non, .bl _ => true | .bl _, .non => true | .non, .str _ => true | .str _, .non => true
  | .int _, .int _ => true | .bl _, .bl _ => true | .str _, .str _ => true | .byt _, .byt _ => true
  | .int _, .str _ => true | .str _, .int _ => true | .bl _, .str _ => true | .str _, .bl _ => true
  | _, _ => false
def rEq : R2 := fun x y H Q => scal x y = true ∧ Q (.bl (decide (x = y))) H
def rNe : R2 := fun x y H Q => scal x y = true ∧ Q (.bl (!decide (x = y))) H

theorem dec_int {i j : Int} : decide (V.int i = V.int j) = (i == j) := by
  rw [Bool.eq_iff_iff]
  simp
theorem dec_bl {i j : Bool} : decide (V.bl i = V.bl j) = (i == j) := by
  rw [Bool.eq_iff_iff]
  simp
theorem dec_str {i j : Str} : decide (V.str i = V.str j) = (i == j) := by
  rw [Bool.eq_iff_iff]
  simp
theorem dec_byt {i j : Array UInt8} : decide (V.byt i = V.byt j) = (i.toList == j.toList) := by
  rw [Bool.eq_iff_iff]
  cases i
  cases j
  simp

section
variable {X : Cx} {a b c : Expr} {ta tb tc : TE} {pos : Pos}
theorem fin_bl {pins : List (Addr × Obj)} {σ : St} {H : Hp} {s : Shared} {Q : VK} {k k' : Bool} (I : Inv X pins σ H s) (q : Q (.bl k) H) (e : k = k') : EP X pins σ Q (.bool k') s := by
  subst e
  exact ⟨.bl k, H, I, rfl, q⟩
theorem op_eq : OpR X (compareOp .Eq) rEq := by
  intro pins s σ H x y v u Q I rx ry h
  obtain ⟨hs, q⟩ := h
  cases x with
  | non =>
    cases rx
    cases y with
    | non => cases ry; exact PySem.EqNone.eq_none_none (fin_bl I q (by simp))
    | bl j => cases ry; exact PySem.EqNone.eq_none_bool (fin_bl I q (by simp))
    | int j => obtain ⟨t', rfl⟩ := ry; exact PySem.EqNone.eq_none_int (fin_bl I q (by simp))
    | str j => obtain ⟨t', rfl⟩ := ry; exact PySem.EqNone.eq_none_str (fin_bl I q (by simp))
    | _ => exact absurd (show false = true from hs) Bool.false_ne_true
  | bl i =>
    cases rx
    cases y with
    | non => cases ry; exact PySem.EqNone.eq_bool_none (fin_bl I q (by simp))
    | bl j => cases ry; exact eq_bool (fin_bl I q dec_bl)
    | str j => obtain ⟨t', rfl⟩ := ry; exact PySem.EqMixed.eq_bool_str (fin_bl I q (by simp))
    | _ => exact absurd (show false = true from hs) Bool.false_ne_true
  | int i =>
    obtain ⟨t, rfl⟩ := rx
    cases y with
    | non => cases ry; exact PySem.EqNone.eq_int_none (fin_bl I q (by simp))
    | int j => obtain ⟨t', rfl⟩ := ry; exact eq_int (fin_bl I q dec_int)
    | str j => obtain ⟨t', rfl⟩ := ry; exact PySem.EqMixed.eq_int_str (fin_bl I q (by simp))
    | _ => exact absurd (show false = true from hs) Bool.false_ne_true
  | str i =>
    obtain ⟨t, rfl⟩ := rx
    cases y with
    | non => cases ry; exact PySem.EqNone.eq_str_none (fin_bl I q (by simp))
    | bl j => cases ry; exact PySem.EqMixed.eq_str_bool (fin_bl I q (by simp))
    | int j => obtain ⟨t', rfl⟩ := ry; exact PySem.EqMixed.eq_str_int (fin_bl I q (by simp))
    | str j => obtain ⟨t', rfl⟩ := ry; exact eq_str (fin_bl I q dec_str)
    | _ => exact absurd (show false = true from hs) Bool.false_ne_true
  | byt i =>
    obtain ⟨t, rfl⟩ := rx
    cases y with
    | byt j => obtain ⟨t', rfl⟩ := ry; exact PySem.W.eq_bytes (fin_bl I q dec_byt)
    | _ => exact absurd (show false = true from hs) Bool.false_ne_true
  | _ => cases y <;> exact absurd (show false = true from hs) Bool.false_ne_true
theorem op_ne : OpR X (compareOp .NotEq) rNe := by
  intro pins s σ H x y v u Q I rx ry h
  obtain ⟨hs, q⟩ := h
  cases x with
  | non =>
    cases rx
    cases y with
    | non => cases ry; exact PySem.EqNone.ne_none_none (fin_bl I q (by simp))
    | bl j => cases ry; exact PySem.EqNone.ne_none_bool (fin_bl I q (by simp))
    | int j => obtain ⟨t', rfl⟩ := ry; exact PySem.EqNone.ne_none_int (fin_bl I q (by simp))
    | str j => obtain ⟨t', rfl⟩ := ry; exact PySem.EqNone.ne_none_str (fin_bl I q (by simp))
    | _ => exact absurd (show false = true from hs) Bool.false_ne_true
  | bl i =>
    cases rx
    cases y with
    | non => cases ry; exact PySem.EqNone.ne_bool_none (fin_bl I q (by simp))
    | bl j => cases ry; exact ne_bool (fin_bl I q (congrArg not dec_bl))
    | str j => obtain ⟨t', rfl⟩ := ry; exact PySem.EqMixed.ne_bool_str (fin_bl I q (by simp))
    | _ => exact absurd (show false = true from hs) Bool.false_ne_true
  | int i =>
    obtain ⟨t, rfl⟩ := rx
    cases y with
    | non => cases ry; exact PySem.EqNone.ne_int_none (fin_bl I q (by simp))
    | int j => obtain ⟨t', rfl⟩ := ry; exact ne_int (fin_bl I q (congrArg not dec_int))
    | str j => obtain ⟨t', rfl⟩ := ry; exact PySem.EqMixed.ne_int_str (fin_bl I q (by simp))
    | _ => exact absurd (show false = true from hs) Bool.false_ne_true
  | str i =>
    obtain ⟨t, rfl⟩ := rx
    cases y with
    | non => cases ry; exact PySem.EqNone.ne_str_none (fin_bl I q (by simp))
    | bl j => cases ry; exact PySem.EqMixed.ne_str_bool (fin_bl I q (by simp))
    | int j => obtain ⟨t', rfl⟩ := ry; exact PySem.EqMixed.ne_str_int (fin_bl I q (by simp))
    | str j => obtain ⟨t', rfl⟩ := ry; exact ne_str (fin_bl I q (congrArg not dec_str))
    | _ => exact absurd (show false = true from hs) Bool.false_ne_true
  | byt i =>
    obtain ⟨t, rfl⟩ := rx
    cases y with
    | byt j => obtain ⟨t', rfl⟩ := ry; exact PySem.W.ne_bytes (fin_bl I q (congrArg not dec_byt))
    | _ => exact absurd (show false = true from hs) Bool.false_ne_true
  | _ => cases y <;> exact absurd (show false = true from hs) Bool.false_ne_true

theorem op_lt : OpR X (compareOp .Lt) (rI0 fun i j => .bl (decide (i < j))) := opB0 fun _ _ _ _ _ _ _ q => lt_int q
theorem op_le : OpR X (compareOp .LtE) (rI0 fun i j => .bl (decide (i ≤ j))) := opB0 fun _ _ _ _ _ _ _ q => le_int q
theorem op_gt : OpR X (compareOp .Gt) (rI0 fun i j => .bl (decide (j < i))) := opB0 fun _ _ _ _ _ _ _ q => gt_int q
theorem nomark (b : Expr) {op : CmpOp} (h : op ≠ .In := by decide) (h2 : op ≠ .NotIn := by decide) : behindInMarks op b = false := by
  have e1 : (op == CmpOp.In) = false := by cases op <;> first | rfl | exact absurd rfl h
  have e2 : (op == CmpOp.NotIn) = false := by cases op <;> first | rfl | exact absurd rfl h2
  cases b <;> simp [behindInMarks, e1, e2]
/-- a comparison as a value; hm: nomark b, or (for in, not in) by with_unfolding_all rfl -/
theorem pe_cmpR {op : CmpOp} {r : R2} (ho : OpR X (compareOp op) r) (ha : PE X a ta) (hb : PE X b tb) (hm : behindInMarks op b = false) : PE X (.Compare a [op] [b] pos) (tOp r ta tb) := by
  intro pins s σ H Q I h
  exact wpAny_Compare1 (binT ha hb I h fun v u s2 x y H2 I2 rx ry q => ho pins s2 σ H2 x y v u Q I2 rx ry q) hm
/-- a reading of a value as a test -/
def tTest (t : TE) : TT := fun σ H Q => t σ H fun x H' => ∃ k, x = .bl k ∧ Q k H'
theorem pt_cmpR {op : CmpOp} {r : R2} (ho : OpR X (compareOp op) r) (ha : PE X a ta) (hb : PE X b tb) (hm : behindInMarks op b = false) : PT X (.Compare a [op] [b] pos) (tTest (tOp r ta tb)) := by
  intro pins s σ H Q I h
  refine wpAny_isTrue_Compare1 (thn (ha pins s σ H _ I h) fun v s1 ⟨x, H1, I1, r1, q1⟩ => thn (hb pins s1 σ H1 _ I1 q1) fun u s2 ⟨y, H2, I2, r2, q2⟩ =>
    thn (ho pins s2 σ H2 x y v u _ I2 r1 r2 q2) fun c s3 ⟨z, H3, I3, r3, k, e, q3⟩ => ?_) hm
  subst e
  cases r3
  exact wpAny_truthy_bool ⟨H3, I3, q3⟩
/-- a op1 b op2 c -/
def tChain (r r' : R2) (ta tb tc : TE) : TE := fun σ H Q => ta σ H fun x H1 => tb σ H1 fun y H2 => r x y H2 fun z H3 => ∃ k, z = .bl k ∧
  (if k = true then tc σ H3 fun w' H4 => r' y w' H4 Q else Q (.bl false) H3)
theorem pe_chain {op op' : CmpOp} {r r' : R2} (ho : OpR X (compareOp op) r) (ho' : OpR X (compareOp op') r') (ha : PE X a ta) (hb : PE X b tb) (hc : PE X c tc)
    (hm : lastMarks [op, op'] [b, c] = false := by with_unfolding_all rfl) : PE X (.Compare a [op, op'] [b, c] pos) (tChain r r' ta tb tc) := by
  intro pins s σ H Q I h
  refine Compare_chain (thn (ha pins s σ H _ I h) fun v s1 ⟨x, H1, I1, r1, q1⟩ => chain_link (thn (hb pins s1 σ H1 _ I1 q1) fun u s2 ⟨y, H2, I2, r2, q2⟩ =>
    thn (ho pins s2 σ H2 x y v u _ I2 r1 r2 q2) fun d s3 ⟨z, H3, I3, r3, k, e, q3⟩ => ?_)) hm
  subst e
  cases r3
  refine wpAny_truthy_bool ?_
  cases k with
  | false => exact ite_ff ⟨.bl false, H3, I3, rfl, q3⟩
  | true => exact ite_tt (chain_last (thn (hc pins s3 σ H3 _ I3 q3) fun w' s4 ⟨z', H4, I4, r4, q4⟩ => ho' pins s4 σ H4 y z' u w' Q I4 r2 r4 q4))
theorem pt_chain {op op' : CmpOp} {r r' : R2} (ho : OpR X (compareOp op) r) (ho' : OpR X (compareOp op') r') (ha : PE X a ta) (hb : PE X b tb) (hc : PE X c tc)
    (hm : lastMarks [op, op'] [b, c] = false := by with_unfolding_all rfl) : PT X (.Compare a [op, op'] [b, c] pos) (tTest (tChain r r' ta tb tc)) := by
  intro pins s σ H Q I h
  refine isTrue_chain (thn (ha pins s σ H _ I h) fun v s1 ⟨x, H1, I1, r1, q1⟩ => test_link (thn (hb pins s1 σ H1 _ I1 q1) fun u s2 ⟨y, H2, I2, r2, q2⟩ =>
    thn (ho pins s2 σ H2 x y v u _ I2 r1 r2 q2) fun d s3 ⟨z, H3, I3, r3, k, e, q3⟩ => ?_)) hm
  subst e
  cases r3
  refine wpAny_truthy_bool ?_
  cases k with
  | false =>
    obtain ⟨k', e', q'⟩ := q3
    cases e'
    exact ite_ff ⟨H3, I3, q'⟩
  | true =>
    refine ite_tt (test_last (thn (hc pins s3 σ H3 _ I3 q3) fun w' s4 ⟨z', H4, I4, r4, q4⟩ => thn (ho' pins s4 σ H4 y z' u w' _ I4 r2 r4 q4) fun d' s5 ⟨z2, H5, I5, r5, k2, e2, q5⟩ => ?_))
    subst e2
    cases r5
    exact wpAny_truthy_bool ⟨H5, I5, q5⟩

/-! ### truth -/
theorem line63 : (sizeLine : Nat) < 2 ^ 63 := by rw [sizeLine_eq]; decide
/-! ### strs and bytes -/
/-! ### scalar builtins, by CallR -/
theorem vals1 {x : V} {us : List Value} (r : Vals [x] us) : ∃ u, us = [u] ∧ RelV x u := by
  cases r with
  | cons r1 r2 => cases r2; exact ⟨_, rfl, r1⟩
theorem vals2 {x y : V} {us : List Value} (r : Vals [x, y] us) : ∃ u w', us = [u, w'] ∧ RelV x u ∧ RelV y w' := by
  cases r with
  | cons r1 r2 =>
    cases r2 with
    | cons r3 r4 => cases r4; exact ⟨_, _, rfl, r1, r3⟩
theorem call_max2 (hc : X.calm = true) : CallR X (.builtin "max") (fun xs H Q => ∃ i j, xs = [.int i, .int j] ∧ Q (.int (if j > i then j else i)) H) := by
  intro pins s σ H xs us Q I r h
  obtain ⟨i, j, rfl, q⟩ := h
  obtain ⟨u, w', rfl, ⟨t, rfl⟩, ⟨t', rfl⟩⟩ := vals2 r
  refine max_two_ints (I.ok.hd hc) fun h' tk k => ⟨_, H, I.kept k, ?_, q⟩
  by_cases hj : j > i
  · rw [if_pos hj, if_pos hj]; exact ⟨_, rfl⟩
  · rw [if_neg hj, if_neg hj]; exact ⟨_, rfl⟩
end
end L2

namespace L2
open PySem PySem.Spec PyProof.Rows

/-! ### an instance, its attributes a map -/
structure ObjM (h : Heap) (x dx C : Addr) (mA : Str → Option Value) : Prop where
  obj : h.get? x = some (PySem.W.instObj C dx)
  ns : h.Ns1 dx mA
  ne : dx ≠ x

theorem lookIn_ns {h : Heap} {dx : Addr} {mA : Str → Option Value} (n : h.Ns1 dx mA) : ∃ od, h.get? dx = some od ∧ ∀ name, PySem.W.lookIn name od = some (mA name) := by
  obtain ⟨o, es, ep, ho, hd, hk, _, hm⟩ := n
  refine ⟨o, ho, fun name => ?_⟩
  have e := hm name
  unfold nsFind findBy at e
  rw [← Array.find?_toList] at e
  unfold PySem.W.lookIn
  rw [hd]
  dsimp only
  split
  · rename_i y q
    rw [q] at e
    exact congrArg some e
  · rename_i q
    rw [q] at e
    have a : es.toList.any (·.refKey) = false := by
      rw [List.any_eq_false]
      intro y hy
      obtain ⟨z, t, hkey⟩ := hk y (Array.mem_toList_iff.mp hy)
      simp [DictEntry.refKey, hkey]
    have a' : ¬ es.toList.any (·.refKey) = true := by rw [a]; exact Bool.false_ne_true
    rw [if_neg a']
    exact congrArg some e

theorem ObjM.look {h : Heap} {x dx C : Addr} {mA : Str → Option Value} (I : ObjM h x dx C mA) : ∃ od, PySem.W.InstAt h x (PySem.W.instObj C dx) C (some od) ∧ ∀ name, PySem.W.lookIn name od = some (mA name) :=
  let ⟨od, ho, hl⟩ := lookIn_ns I.ns
  ⟨od, ⟨I.obj, rfl, rfl, ho⟩, hl⟩

section
variable {prog : Program} {w : World} {A : Around} {E : Value → Shared → Prop} {s : Shared} {K : PySem.W.Frag} {x dx C f : Addr} {mA : Str → Option Value} {name : Str} {v : Value}

theorem get_map {expr : Bool} {Q : Value → Shared → Prop} (X : K.In s.heap) (I : ObjM s.heap x dx C mA) (hg : PySem.W.plainGet K C name = true) (hh : PySem.W.hasDictIn K C = true)
    (ha : PySem.W.findIn K (.ref C) name = some none) (hv : mA name = some v) (hv' : PySem.W.handedIn v = true) (h : Q v { s with toks := s.toks + 1 }) :
    wpAny (model prog w) A (getAttr (.ref x) name expr) Q E s := by
  obtain ⟨od, J, hl⟩ := I.look
  exact PySem.W.get_value X J (PySem.W.plainGet_of hg).1 (PySem.W.findObj_own hh ha rfl (by rw [hl, hv])) hv' h

theorem get_meth {pl : Sem Bool} {Q : Value × List Value → Shared → Prop} (X : K.In s.heap) (I : ObjM s.heap x dx C mA) (hg : PySem.W.plainGet K C name = true)
    (hf : PySem.W.findIn K (.ref C) name = some (some (.ref f))) (ht : PySem.W.isFn K (.ref f) = true) (hv : mA name = none) (h : Q (.ref f, [.ref x]) s) :
    wpAny (model prog w) A (getMethod (.ref x) name pl) Q E s := by
  obtain ⟨od, J, hl⟩ := I.look
  exact PySem.W.method_fn X J (PySem.W.plainGet_of hg).1 (PySem.W.plainGet_of hg).2 hf (beq_iff_eq.mp ht) (by show (PySem.W.lookIn name od).map (·.isSome) = some false; rw [hl, hv]; rfl) h

theorem set_map {ns : List Str} {Q : Unit → Shared → Prop} (X : K.In s.heap) (I : ObjM s.heap x dx C mA)
    (hs : PySem.W.findIn K (.ref C) "__setattr__" = some (some (.builtin "object.__setattr__"))) (hp : PySem.W.plainOver K C = true) (ht : PySem.W.takerIn K C name = some none) (hh : PySem.W.hasDictIn K C = true)
    (hw : PySem.Within mA ns) (hsz : ns.length ≤ sizeLine)
    (h : ∀ h', ObjM h' x dx C (fun y => if y = name then some v else mA y) → Heap.SameBut dx s.heap h' → Q () { s with heap := h', toks := s.toks + 2 }) :
    wpAny (model prog w) A (setAttr (.ref x) name v) Q E s := by
  obtain ⟨od, J, hl⟩ := I.look
  refine PySem.W.set_plain X J hs (PySem.W.osa_open (s := { s with toks := s.toks + 1 }) (r := none) X J hp ht fun b => ?_)
  obtain ⟨cd, hc, hd'⟩ := PySem.W.any_some hh
  have hx : s.heap.get? x = some ⟨.ref C, some dx, .plain, #[]⟩ := I.obj
  refine wpAny_bind (wpAny_pure (wpAny_bind (wpAny_bind (wpAny_loadPart hx (wpAny_bind (PySem.W.Looks.here (s := { s with toks := s.toks + 1 }) (PySem.W.looks_clsIn X hc) ?_))))))
  rw [hd']
  refine wpAny_pure (a := some dx) (wpAny_bind (wpAny_pure (wpAny_bind ?_)))
  refine wpAny_nsSet1 (s := { s with toks := s.toks + 1 }) I.ns fun h' hn2 hs2 => ?_
  obtain ⟨oD, esD, epD, hoD, hdD, hcD⟩ := hn2.count (PySem.Within.cons name v hw)
  refine wpAny_bind (wpAny_lookBehind hoD (by rw [hdD]; exact pastItsLine_dict (Nat.le_trans hcD (by rw [List.length_cons]; omega))) ?_)
  exact wpAny_pure (h _ ⟨(hs2.2 _ (Ne.symm I.ne)).trans I.obj, hn2, I.ne⟩ hs2)

/-- C(..): the dict at the heap's end, the instance behind it; then its __init__ -/
theorem make_map {R : Result → Shared → Prop} {vs : List Value} {kw : List (Str × Value)} (X : K.In s.heap) (hm : PySem.W.makesIn K C = true)
    (hi : PySem.W.findIn K (.ref C) "__init__" = some (some (.ref f))) (hf : PySem.W.typeIn K (.ref f) = some (.type "function"))
    (h : codeAny (model prog w) (A.under (.builtin "type.__call__" ⟨.ref C :: vs, kw⟩)) (.call (.ref f) ⟨.ref (s.heap.objs.size + 1) :: vs, kw⟩) (PySem.W.InitBack (s.heap.objs.size + 1) R)
      { s with heap := (s.heap.push PySem.W.emptyDict).push (PySem.W.instObj C s.heap.objs.size) }) :
    codeAny (model prog w) A (.call (.ref C) ⟨vs, kw⟩) R s := by
  obtain ⟨hh, g, d, t, os⟩ := s
  exact PySem.W.make_core (PySem.W.makes_of X hm) (PySem.W.looks_findIn X hi) (fun self => PySem.W.bind_fn X self hf) (.inl rfl) h
end

/-! ### the attributes as a list of pairs -/
def putF (f : Str) (v : V) : List (Str × V) → List (Str × V)
  | [] => [(f, v)]
  | (g, x) :: r => if g = f then (g, v) :: r else (g, x) :: putF f v r
theorem lookup_putF (f g : Str) (v : V) : ∀ fs : List (Str × V), (putF f v fs).lookup g = if g = f then some v else fs.lookup g
  | [] => by
    show List.lookup g [(f, v)] = _
    by_cases h : g = f
    · have hb : (g == f) = true := beq_iff_eq.mpr h
      simp only [List.lookup, hb, if_pos h]
    · have hb : (g == f) = false := beq_eq_false_iff_ne.mpr h
      simp only [List.lookup, hb, if_neg h]
  | (k, x) :: r => by
    have ih := lookup_putF f g v r
    rw [show putF f v ((k, x) :: r) = (if k = f then (k, v) :: r else (k, x) :: putF f v r) from rfl]
    by_cases hk : k = f
    · rw [if_pos hk]
      by_cases h : g = k
      · have hb : (g == k) = true := beq_iff_eq.mpr h
        simp only [List.lookup, hb, if_pos (h.trans hk)]
      · have hb : (g == k) = false := beq_eq_false_iff_ne.mpr h
        simp only [List.lookup, hb, if_neg (fun e : g = f => h (e.trans hk.symm))]
    · rw [if_neg hk]
      by_cases h : g = k
      · have hb : (g == k) = true := beq_iff_eq.mpr h
        simp only [List.lookup, hb, if_neg (fun e : g = f => hk (h.symm.trans e))]
      · have hb : (g == k) = false := beq_eq_false_iff_ne.mpr h
        simp only [List.lookup, hb]
        exact ih
theorem keys_putF (f : Str) (v : V) : ∀ fs : List (Str × V), f ∈ (putF f v fs).map (·.1) ∧ ∀ g, g ∈ fs.map (·.1) → g ∈ (putF f v fs).map (·.1)
  | [] => ⟨by simp [putF], fun g h => by simp at h⟩
  | (k, x) :: r => by
    obtain ⟨i1, i2⟩ := keys_putF f v r
    rw [show putF f v ((k, x) :: r) = (if k = f then (k, v) :: r else (k, x) :: putF f v r) from rfl]
    by_cases hk : k = f
    · rw [if_pos hk]
      subst hk
      exact ⟨by simp, fun g h => by simpa using h⟩
    · rw [if_neg hk]
      refine ⟨?_, fun g h => ?_⟩
      · rw [List.map_cons]
        exact List.mem_cons_of_mem _ i1
      · rw [List.map_cons] at h ⊢
        rcases List.mem_cons.mp h with e | e
        · exact List.mem_cons.mpr (.inl e)
        · exact List.mem_cons_of_mem _ (i2 g e)
theorem length_putF (f : Str) (v : V) : ∀ fs : List (Str × V), (putF f v fs).length ≤ fs.length + 1
  | [] => by simp [putF]
  | (k, x) :: r => by
    have ih := length_putF f v r
    rw [show putF f v ((k, x) :: r) = (if k = f then (k, v) :: r else (k, x) :: putF f v r) from rfl]
    by_cases hk : k = f
    · rw [if_pos hk, List.length_cons, List.length_cons]; omega
    · rw [if_neg hk, List.length_cons, List.length_cons]; omega

theorem RelO.some_of {v : V} {o : Option Value} (r : RelO (some v) o) : ∃ u, o = some u ∧ RelV v u := by
  cases o with
  | none => exact (show False from r).elim
  | some u => exact ⟨u, rfl, r⟩
theorem RelO.none_of {o : Option Value} (r : RelO none o) : o = none := by
  cases o with
  | none => rfl
  | some u => exact (show False from r).elim
theorem handed_of {v : V} {u : Value} (r : RelV v u) : PySem.W.handedIn u = true := by
  cases v with
  | non => cases (show u = Value.none from r); rfl
  | bl b => cases (show u = Value.bool b from r); rfl
  | int i => obtain ⟨t, e⟩ := (show ∃ t, u = Value.int i t from r); cases e; rfl
  | str x => obtain ⟨t, e⟩ := (show ∃ t, u = Value.str x t from r); cases e; rfl
  | byt b => obtain ⟨t, e⟩ := (show ∃ t, u = Value.bytes b t from r); cases e; rfl
  | flt b => obtain ⟨t, e⟩ := (show ∃ t, u = Value.float b t from r); cases e; rfl
  | ref a => cases (show u = Value.ref a from r); rfl
  | ty n => cases (show u = Value.type n from r); rfl

section
variable {P : Program} {w : World} {H H' : Hp} {h h' : Heap} {a C dx : Addr} {fs fs' : List (Str × V)}
theorem ins_get (hok : HOk P w H h) (e : H a = some (.ins C dx fs)) : ∃ mA, ObjM h a dx C mA ∧ (∀ f, RelO (fs.lookup f) (mA f)) ∧ PySem.Within mA (fs.map (·.1)) ∧ fs.length ≤ 1000 ∧ H dx = some (.own a) := by
  obtain ⟨d, z, ne, ob, mA, n, r, q⟩ := (show ObjOk P w H h a (.ins C dx fs) from hok a _ e)
  exact ⟨mA, ⟨ob, n, ne⟩, r, q, z, d⟩
end

/-! ### what of the text a class must have -/
structure Cls (K : PySem.W.Frag) (C : Addr) : Prop where
  pg : PySem.W.plainGet K C Str.empty = true
  hd : PySem.W.hasDictIn K C = true
  po : PySem.W.plainOver K C = true
  sa : PySem.W.findIn K (.ref C) "__setattr__" = some (some (.builtin "object.__setattr__"))
theorem Cls.get {K : PySem.W.Frag} {C : Addr} (c : Cls K C) (f : Str) : PySem.W.plainGet K C f = true := c.pg
/-- no class of it has the name -/
def NoAttr (K : PySem.W.Frag) (C : Addr) (f : Str) : Prop := PySem.W.findIn K (.ref C) f = some none
theorem NoAttr.taker {K : PySem.W.Frag} {C : Addr} {f : Str} (n : NoAttr K C f) : PySem.W.takerIn K C f = some none := by
  unfold PySem.W.takerIn
  rw [show PySem.W.findIn K (.ref C) f = some none from n]
  rfl
/-- a method: a plain def of the class or of one above it -/
structure Meth (K : PySem.W.Frag) (C : Addr) (m : Str) (f : Addr) : Prop where
  at_ : PySem.W.findIn K (.ref C) m = some (some (.ref f))
  fn : PySem.W.isFn K (.ref f) = true
  kp : PySem.W.keepIn K (.ref f) = true

section
variable {X : Cx} {pins : List (Addr × Obj)} {σ : St} {H : Hp} {s : Shared} {a C dx : Addr} {fs : List (Str × V)} {f : Str} {v : V} {A : Around} {E : Value → Shared → Prop}

theorem getattr_ok {b : Bool} {Q : Value → Shared → Prop} (I : Inv X pins σ H s) (e : H a = some (.ins C dx fs)) (c : Cls X.K C) (n : NoAttr X.K C f) (l : fs.lookup f = some v)
    (h : ∀ u s', Inv X pins σ H s' → RelV v u → Q u s') : wpAny (model X.prog X.w) A (getAttr (.ref a) f b) Q E s := by
  obtain ⟨mA, O, r, _, _, _⟩ := ins_get I.hok e
  obtain ⟨u, hu, ru⟩ := RelO.some_of (v := v) (o := mA f) (by rw [← l]; exact r f)
  exact get_map I.kIn O (c.get f) c.hd n hu (handed_of ru) (h u _ (I.tok _) ru)

theorem getmeth_ok {m : Str} {g : Addr} {pl : Sem Bool} {Q : Value × List Value → Shared → Prop} (I : Inv X pins σ H s) (e : H a = some (.ins C dx fs)) (c : Cls X.K C) (k : Meth X.K C m g) (l : fs.lookup m = none)
    (h : Q (.ref g, [.ref a]) s) : wpAny (model X.prog X.w) A (getMethod (.ref a) m pl) Q E s := by
  obtain ⟨mA, O, r, _, _, _⟩ := ins_get I.hok e
  have hn : mA m = none := RelO.none_of (by rw [← l]; exact r m)
  exact get_meth I.kIn O (c.get m) k.at_ k.fn hn h

theorem setattr_ok {y : V} {u : Value} {Q : Unit → Shared → Prop} (I : Inv X pins σ H s) (e : H a = some (.ins C dx fs)) (c : Cls X.K C) (n : NoAttr X.K C f) (hl : fs.length < 1000) (ry : RelV y u)
    (h : ∀ s', Inv X pins σ (upd H a (.ins C dx (putF f y fs))) s' → Q () s') : wpAny (model X.prog X.w) A (setAttr (.ref a) f u) Q E s := by
  obtain ⟨mA, O, r, wi, _, ho⟩ := ins_get I.hok e
  have hz : (fs.map (·.1)).length ≤ sizeLine := by rw [List.length_map, sizeLine_eq]; omega
  refine set_map I.kIn O c.sa c.po n.taker c.hd wi hz fun h' O' sb => h _ ?_
  have hd : ∃ o, h'.get? dx = some o := let ⟨o, _, _, e', _⟩ := O'.ns; ⟨o, e'⟩
  refine I.write (x := a) (e := dx) (by rw [e]; exact True.intro) (.inr ho) (fun b q hb z => (sb.2 b hb).trans z) hd ?_
  refine ⟨by rw [upd_ne O.ne]; exact ho, ?_, O.ne, O'.obj, _, O'.ns, fun g => ?_, fun g hg => ?_⟩
  · have := length_putF f y fs; omega
  · show RelO ((putF f y fs).lookup g) (if g = f then some u else mA g)
    rw [lookup_putF]
    by_cases q : g = f
    · rw [if_pos q, if_pos q]; exact ry
    · rw [if_neg q, if_neg q]; exact r g
  · by_cases q : g = f
    · rw [q]; exact (keys_putF f y fs).1
    · refine (keys_putF f y fs).2 g (wi g fun z => hg ?_)
      show (if g = f then some u else mA g) = none
      rw [if_neg q]; exact z

/-- a new instance, tracked, without attributes -/
theorem Inv.made (I : Inv X pins σ H s) : Inv X pins σ (upd (upd H s.heap.objs.size (.own (s.heap.objs.size + 1))) (s.heap.objs.size + 1) (.ins C s.heap.objs.size []))
    { s with heap := (s.heap.push PySem.W.emptyDict).push (PySem.W.instObj C s.heap.objs.size) } := by
  have e1 : (s.heap.push PySem.W.emptyDict).get? s.heap.objs.size = some PySem.W.emptyDict := Heap.get?_push_size s.heap rfl
  have e2 : ((s.heap.push PySem.W.emptyDict).push (PySem.W.instObj C s.heap.objs.size)).get? (s.heap.objs.size + 1) = some (PySem.W.instObj C s.heap.objs.size) := by
    have := Heap.get?_push_size (s.heap.push PySem.W.emptyDict) (o := PySem.W.instObj C s.heap.objs.size) rfl
    rwa [Heap.size_push] at this
  have e3 : (s.heap.push PySem.W.emptyDict).Ns s.heap.objs.size (fun _ => none) := ⟨PySem.W.emptyDict, #[], _, e1, rfl, (fun e he => absurd he (by simp)), fun _ => rfl⟩
  have I1 := I.laid (a := s.heap.objs.size) (o := .own (s.heap.objs.size + 1)) (h' := s.heap.push PySem.W.emptyDict) (t' := s.toks) (fun b u q => Heap.get?_push_of_some _ q) (Nat.le_refl _) ⟨_, e1⟩
  refine I1.laid (a := s.heap.objs.size + 1) (o := .ins C s.heap.objs.size []) (t' := s.toks) (fun b u q => Heap.get?_push_of_some _ q) (Nat.le_of_eq (Heap.size_push _ _)) ?_
  have ne : s.heap.objs.size ≠ s.heap.objs.size + 1 := Nat.ne_of_lt (Nat.lt_succ_self _)
  refine ⟨by rw [upd_ne ne, upd_same], Nat.zero_le _, ne, e2, fun _ => none, (Heap.Ns1.of_empty e3).at fun o q => Heap.get?_push_of_some _ q, fun _ => True.intro, fun y hy => absurd rfl hy⟩

/-- e.f where nothing but the object is asked: through attributeBase (super) and the last hold -/
theorem attr_of {prog : Program} {w : World} {env : Env} {e : Expr} {f : Str} {pos : Pos} {s : Shared} {Q : Value → Shared → Prop} (hb : attributeBase e f env (eval e env) = eval e env)
    (h : wpAny (model prog w) A (eval e env) (fun o s₁ => wpAny (model prog w) A (getAttr o f true) Q E s₁) E s) : wpAny (model prog w) A (eval (.Attribute e f pos) env) Q E s :=
  Attribute_any_ h (by rw [arm_eval_Attribute, hb])
end

/-! ### readings and rules -/
/-- e.f, an attribute of the instance -/
def tFld (K : PySem.W.Frag) (ta : TE) (f : Str) : TE := fun σ H Q => ta σ H fun x H1 => ∃ a C dx fs v, x = .ref a ∧ H1 a = some (.ins C dx fs) ∧ Cls K C ∧ NoAttr K C f ∧ fs.lookup f = some v ∧ Q v H1
/-- e.f = value -/
def sFld (K : PySem.W.Frag) (ta tv : TE) (f : Str) : TS := fun D σ H => tv σ H fun y H1 => ta σ H1 fun x H2 => ∃ a C dx fs, x = .ref a ∧ H2 a = some (.ins C dx fs) ∧ Cls K C ∧ NoAttr K C f ∧ fs.length < 1000 ∧
  D.nx σ (upd H2 a (.ins C dx (putF f y fs)))
/-- an augmented operator on two values -/
def InOp (X : Cx) (op : Operator) (rd : V → V → Hp → VK → Prop) : Prop :=
  ∀ (pins : List (Addr × Obj)) (s : Shared) (σ : St) (H : Hp) (x y : V) (u v : Value) (Q : VK), Inv X pins σ H s → RelV x u → RelV y v → rd x y H Q → wpAny (model X.prog X.w) X.A (inplaceOp op u v) (EP X pins σ Q) X.xe s
/-- e.f op= value -/
def sFldAug (K : PySem.W.Frag) (ta tv : TE) (rd : V → V → Hp → VK → Prop) (f : Str) : TS := fun D σ H => ta σ H fun x H1 => ∃ a C dx fs v, x = .ref a ∧ H1 a = some (.ins C dx fs) ∧ Cls K C ∧ NoAttr K C f ∧ fs.lookup f = some v ∧
  tv σ H1 fun y H2 => rd v y H2 fun z H3 => ∃ dx' fs', H3 a = some (.ins C dx' fs') ∧ fs'.length < 1000 ∧ D.nx σ (upd H3 a (.ins C dx' (putF f z fs')))

section
variable {X : Cx} {o e value : Expr} {f : Str} {pos pos' tpos : Pos} {ta tv : TE}
theorem pe_fld (he : PE X e ta) (hb : attributeBase e f X.env (eval e X.env) = eval e X.env) : PE X (.Attribute e f pos) (tFld X.K ta f) := by
  intro pins s σ H Q I h
  refine attr_of hb (thn (he pins s σ H _ I h) fun u s1 ⟨x, H1, I1, rx, a, C, dx, fs, v, ex, ea, c, n, l, q⟩ => ?_)
  subst ex
  obtain rfl : u = Value.ref a := rx
  exact getattr_ok I1 ea c n l fun u' s2 I2 ru => ⟨v, H1, I2, ru, q⟩
theorem ps_fld (ha : PE X o ta) (hv : PE X value tv) (hs : swapsWith value (some (.Attribute o f pos')) pos.line X.env = pure false) : PS X (.Assign [.Attribute o f pos'] value pos) (sFld X.K ta tv f) := by
  intro pins s σ H D I h
  refine plainObj_wpAny_Assign_Attribute (thn (hv pins s σ H _ I h) fun u s1 ⟨y, H1, I1, ry, q⟩ => thn (ha pins s1 σ H1 _ I1 q) fun ov s2 ⟨x, H2, I2, rx, a, C, dx, fs, ex, ea, c, n, l, q2⟩ => ?_) hs
  subst ex
  obtain rfl : ov = Value.ref a := rx
  exact setattr_ok I2 ea c n l ry fun s3 I3 => ⟨σ, _, I3, q2⟩
theorem ps_fldaug {op : Operator} {rd : V → V → Hp → VK → Prop} (ha : PE X o ta) (hv : PE X value tv) (hop : InOp X op rd) : PS X (.AugAssign (.Attribute o f tpos) op value pos) (sFldAug X.K ta tv rd f) := by
  intro pins s σ H D I h
  refine wpAny_AugAssign_AttributeAny (thn (ha pins s σ H _ I h) fun ov s1 ⟨x, H1, I1, rx, a, C, dx, fs, v, ex, ea, c, n, l, q⟩ => ?_)
  subst ex
  obtain rfl : ov = Value.ref a := rx
  refine getattr_ok I1 ea c n l fun u s2 I2 ru => thn (hv pins s2 σ H1 _ I2 q) fun w3 s3 ⟨y, H2, I3, ry, q3⟩ => thn (hop pins s3 σ H2 v y u w3 _ I3 ru ry q3) fun w4 s4 ⟨z, H3, I4, rz, dx', fs', ea', l', q4⟩ => ?_
  exact setattr_ok I4 ea' c n l' rz fun s5 I5 => ⟨σ, _, I5, q4⟩
def rAdd : V → V → Hp → VK → Prop := fun x y H Q => ∃ i j, x = .int i ∧ y = .int j ∧ Q (.int (i + j)) H
theorem in_add : InOp X .Add rAdd := by
  rintro pins s σ H x y u v Q I rx ry ⟨i, j, rfl, rfl, q⟩
  obtain ⟨t, rfl⟩ := (show ∃ t, u = Value.int i t from rx)
  obtain ⟨t', rfl⟩ := (show ∃ t', v = Value.int j t' from ry)
  exact PyProof.Rows.iadd_int ⟨.int (i + j), H, I.tok _, ⟨_, rfl⟩, q⟩
end

/-! ### isinstance -/
section
variable {X : Cx} {pins : List (Addr × Obj)} {σ : St} {H : Hp} {s : Shared} {A : Around} {E : Value → Shared → Prop} {Q : Value → Shared → Prop} {c : Value} {b : Bool}
end
end L2

namespace L2
open PySem PySem.Spec PyProof.Rows

/-! ### room -/
structure Room (k : Nat) (A : Around) : Prop where
  hd : A.handled = none
  dp : A.depth + 3 * k + 5 < recursionLimit
  un : A.units + 16 * k + 200 < cLine
theorem Room.mono {j k : Nat} {A : Around} (r : Room k A) (h : j ≤ k) : Room j A := ⟨r.hd, by have := r.dp; omega, by have := r.un; omega⟩
theorem Room.deeper {k : Nat} {A : Around} (r : Room (k + 1) A) (env : Env) : Room k (A.deeper env) :=
  ⟨r.hd, by have := r.dp; show A.depth + 1 + 3 * k + 5 < _; omega, by have := r.un; show A.units + 3 + 16 * k + 200 < _; omega⟩
theorem make_depth {A : Around} {C : Addr} {us : List Value} {kw : List (Str × Value)} : (A.under (.builtin "type.__call__" ⟨.ref C :: us, kw⟩)).depth = A.depth + 1 := by
  first | rfl | simp [Around.under, Code.weight, Code.isCreation, Code.isGuard, Code.isCaller, Code.frames, Code.isFrame, guardIds]
theorem make_units {A : Around} {C : Addr} {us : List Value} {kw : List (Str × Value)} : (A.under (.builtin "type.__call__" ⟨.ref C :: us, kw⟩)).units = A.units + 1 := by
  first | rfl | simp [Around.under, Code.cUnits, Code.frames, Code.isFrame]
theorem Room.make {k : Nat} {A : Around} (r : Room (k + 1) A) (C : Addr) (us : List Value) (kw : List (Str × Value)) : Room k (A.under (.builtin "type.__call__" ⟨.ref C :: us, kw⟩)) :=
  ⟨r.hd, by have := r.dp; rw [make_depth]; omega, by have := r.un; rw [make_units]; omega⟩
theorem Room.depth {k : Nat} {A : Around} (r : Room k A) : A.depth < recursionLimit := by have := r.dp; omega
/-! ### argument lists and displays -/
def tNil : TA := fun _ H Q => Q [] H
def tCons (ta : TE) (tr : TA) : TA := fun σ H Q => ta σ H fun x H1 => tr σ H1 fun xs H2 => Q (x :: xs) H2
section
variable {X : Cx} {e : Expr} {es : List Expr} {te : TE} {t : TA} {pos : Pos}
theorem pa_nil : PA X [] tNil := fun _ _ _ _ H Q I h => Calls.spliced_nil ⟨[], H, I, .nil, h⟩
theorem pa_cons (ha : PE X e te) (hr : PA X es t) (hs : starEach (e :: es) X.env = (false, eval e X.env) :: starEach es X.env := by rfl) : PA X (e :: es) (tCons te t) := by
  intro pos pins s σ H Q I h
  rw [hs]
  show wpAny _ _ (spliced ((false, eval e X.env) :: backTo pos (starEach es X.env))) _ _ s
  refine Calls.spliced_cons (thn (ha pins s σ H _ I h) fun u s1 ⟨x, H1, I1, r1, q1⟩ => ?_)
  exact thn (hr pos pins s1 σ H1 _ I1 q1) fun us s2 ⟨xs, H2, I2, r2, q2⟩ => ⟨x :: xs, H2, I2, .cons r1 r2, q2⟩

def tLst (t : TA) : TE := fun σ H Q => t σ H fun xs H1 => xs.length ≤ sizeLine ∧ ∀ p, H1 p = none → Q (.ref p) (upd H1 p (.lst xs))
theorem pe_lst (h : PA X es t) : PE X (.List es pos) (tLst t) := by
  intro pins s σ H Q I hq
  refine wpAny_List_spliced (thn (h pos pins s σ H _ I hq) fun us s1 ⟨xs, H1, I1, r, z, q⟩ => ⟨by rw [← r.length]; exact z, ?_⟩)
  have hf : H1 s1.heap.objs.size = none := I1.hok.fresh (Nat.le_refl _)
  refine ⟨.ref s1.heap.objs.size, upd H1 s1.heap.objs.size (.lst xs), I1.laid (t' := s1.toks) (fun b u e => Heap.get?_push_of_some _ e) (Nat.le_refl _) ?_, rfl, q _ hf⟩
  exact ⟨z, us, 0, r, Heap.get?_push_size _ rfl⟩
end

/-! ### what a def promises -/
/-- a def's promise: the bound arguments in the parameters' order, the heap, the wanted end, the wanted exception -/
abbrev Sp := List V → Hp → VK → XK → Prop
/-- how an exception lies behind a call (file 08 gives it): the callers' frames, abstract heap and state ahead of the call, the wish, the exception, the state -/
abbrev CXT := List Env → Hp → Shared → XK → Value → Shared → Prop

/-- the state at a call -/
structure Env0 (P : Program) (w : World) (K : PySem.W.Frag) (mg : Str → Option Value) (base : Heap) (A : Around) (outer : List Env) (s : Shared) (H : Hp) : Prop where
  frames : A.frames = some outer
  mod : Mod K mg base
  bs : ∀ b o, base.get? b = some o → s.heap.get? b = some o ∧ H b = none
  bsz : base.objs.size ≤ s.heap.objs.size
  funs : s.heap.FunFrames base outer
  frf : ∀ b ∈ frs outer, H b = none
  hok : HOk P w H s.heap
  bare : AllBare s.gens
/-- a call's end -/
def CE (outer : List Env) (P : Program) (w : World) (H : Hp) (s : Shared) (Q : VK) (u : Value) (s' : Shared) : Prop :=
  ∃ v H', s'.os = s.os ∧ AllBare s'.gens ∧ Un (frs outer) [] H H' s.heap s'.heap ∧ HOk P w H' s'.heap ∧ RelV v u ∧ Q v H'
def CR (CX : CXT) (outer : List Env) (P : Program) (w : World) (H : Hp) (s : Shared) (Q : VK) (E : XK) (r : Result) (s' : Shared) : Prop :=
  match r with
  | .ok (.ret u) => CE outer P w H s Q u s'
  | .ok _ => False
  | .error e => CX outer H s E e s'
structure FnOk (P : Program) (w : World) (K : PySem.W.Frag) (mg : Str → Option Value) (base : Heap) (CX : CXT) (k : Nat) (f : Addr) (fd : FuncData) (ps : List Str) (sp : Sp) : Prop where
  len : ∀ vs H Q E, sp vs H Q E → vs.length = ps.length
  run : ∀ (A : Around) (outer : List Env) (s : Shared) (H : Hp) (args : Args) (us : List Value) (vs : List V) (Q : VK) (E : XK), Room k A → Env0 P w K mg base A outer s H → BindsTo s fd args (ps.zip us) → Vals vs us → sp vs H Q E →
    codeAny (model P w) A (.call (.ref f) args) (CR CX outer P w H s Q E) s
theorem Env0.make {P : Program} {w : World} {K : PySem.W.Frag} {mg : Str → Option Value} {base : Heap} {A : Around} {outer : List Env} {s : Shared} {H : Hp} (e : Env0 P w K mg base A outer s H) (C : Addr) (us : List Value) (kw : List (Str × Value)) :
    Env0 P w K mg base (A.under (.builtin "type.__call__" ⟨.ref C :: us, kw⟩)) outer s H := ⟨by first | exact e.frames | (simpa [Around.under, Code.envs, Code.isFrame, pushEnvs] using e.frames), e.mod, e.bs, e.bsz, e.funs, e.frf, e.hok, e.bare⟩
section
variable {X : Cx} {pins : List (Addr × Obj)} {σ : St} {H : Hp} {s s' : Shared}
/-- from a body: what a callee wants -/
theorem Inv.env0 (I : Inv X pins σ H s) : Env0 X.prog X.w X.K X.mg X.base X.A X.stack s H :=
  ⟨I.ok.frames, I.ok.mod, I.bs, Nat.le_trans I.ok.bsz I.sz, I.stack, I.stkFree, I.hok, I.bare⟩
/-- behind a call -/
theorem Inv.after {Q : VK} {u : Value} (I : Inv X pins σ H s) (h : CE X.stack X.prog X.w H s Q u s') : EP X pins σ Q u s' := by
  obtain ⟨v, H', os, bare, un, hok, r, q⟩ := h
  obtain ⟨hh, g, d, t, os'⟩ := s'
  obtain rfl : os' = s.os := os
  exact ⟨v, H', I.call (h' := hh) (g' := g) (d' := d) (t' := t) (ch := []) un hok bare (fun b z => absurd z (by simp)), r, q⟩
end

/-! ### calls -/
/-- f(..): the written arguments, then the defaults dvs; E: what is wanted of an exception -/
def tCall (sp : Sp) (dvs : List V) (E : XK) (t : TA) : TE := fun σ H Q => t σ H fun vs H1 => sp (vs ++ dvs) H1 Q E
/-- o.m(..) of an instance of the class at C -/
def tMeth (C : Addr) (m : Str) (sp : Sp) (dvs : List V) (E : XK) (ta : TE) (t : TA) : TE := fun σ H Q => ta σ H fun x H1 => ∃ a dx fs, x = .ref a ∧ H1 a = some (.ins C dx fs) ∧ fs.lookup m = none ∧
  t σ H1 fun vs H2 => sp (x :: (vs ++ dvs)) H2 Q E
/-- C(..): a new instance and its dict, then __init__ -/
def tMake (C : Addr) (sp : Sp) (dvs : List V) (E : XK) (t : TA) : TE := fun σ H Q => t σ H fun vs H1 => ∀ x dx, H1 x = none → H1 dx = none → dx ≠ x →
  sp (.ref x :: (vs ++ dvs)) (upd (upd H1 dx (.own x)) x (.ins C dx [])) (fun v H2 => v = .non ∧ Q (.ref x) H2) E

/-- how the parameters are bound: us the positional arguments, kw the keywords' values by name, ds the defaults that fill up -/
def Binds (K : PySem.W.Frag) (fd : FuncData) (ps : List Str) (ds : List Value) : Prop :=
  ∀ (s : Shared) (us : List Value), K.In s.heap → (us ++ ds).length = ps.length → BindsTo s fd ⟨us, []⟩ (ps.zip (us ++ ds))
/-- every parameter is given -/
theorem Binds.all {K : PySem.W.Frag} {fd : FuncData} {ps : List Str} (h : ∀ us : List Value, us.length = ps.length → bindArgs fd ⟨us, []⟩ = pure (ps.zip us)) : Binds K fd ps [] := fun s us _ hl => by
  rw [List.append_nil] at hl ⊢
  exact .of_eq (h us hl)

/-- an exception of a callee reaches what this body wants of exceptions -/
def Passes (CX : CXT) (X : Cx) (E : XK) : Prop := ∀ (pins : List (Addr × Obj)) (σ : St) (H : Hp) (s : Shared) (e : Value) (s' : Shared), Inv X pins σ H s → CX X.stack H s E e s' → X.xe e s'

section
variable {X : Cx} {CX : CXT} {k : Nat} {f C : Addr} {fd : FuncData} {ps : List Str} {sp : Sp} {dvs : List V} {ds : List Value} {E : XK} {x m : Str} {p pos apos : Pos} {e o : Expr} {es : List Expr} {ta : TE} {t : TA}

/-- the callee runs -/
theorem run_fn {pins : List (Addr × Obj)} {σ : St} {H : Hp} {s : Shared} {Q : VK} {us : List Value} {vs : List V} (F : FnOk X.prog X.w X.K X.mg X.base CX k f fd ps sp) (hr : Room k X.A) (hb : Binds X.K fd ps ds) (hd : Vals dvs ds) (hx : Passes CX X E)
    (I : Inv X pins σ H s) (r : Vals vs us) (h : sp (vs ++ dvs) H Q E) : wpAny (model X.prog X.w) X.A (call (.ref f) us) (EP X pins σ Q) X.xe s := by
  have r2 : Vals (vs ++ dvs) (us ++ ds) := r.append hd
  have hl : (us ++ ds).length = ps.length := by rw [← r2.length]; exact F.len _ _ _ _ h
  refine wpAny_call (codeAny_mono (F.run X.A X.stack s H ⟨us, []⟩ (us ++ ds) (vs ++ dvs) Q E hr I.env0 (hb s us I.kIn hl) r2 h) fun r s' hq => ?_)
  cases r with
  | error e => exact hx pins σ H s e s' I hq
  | ok fl =>
    cases fl with
    | ret u => exact I.after hq
    | next => exact False.elim hq
    | brk => exact False.elim hq
    | cont => exact False.elim hq

theorem pe_call (F : FnOk X.prog X.w X.K X.mg X.base CX k f fd ps sp) (hr : Room k X.A) (hg : Gl X x) (hm : X.mg x = some (.ref f)) (hk : PySem.W.keepIn X.K (.ref f) = true) (hb : Binds X.K fd ps ds) (hd : Vals dvs ds) (hx : Passes CX X E)
    (ha : PA X (e :: es) t) (hdb : (x == ("__debug__" : Str)) = false := by decide) (he : starEach (e :: es) X.env = (false, eval e X.env) :: starEach es X.env := by rfl) (hpl : (backTo pos (starEach es X.env)).any (·.1) = false := by rfl) :
    PE X (.Call (.Name x p) (e :: es) [] pos) (tCall sp dvs E t) := by
  intro pins s σ H Q I h
  refine wpAny_Call_Name_kw (ld_glob I hg hm ?_ hdb)
  refine PySem.W.callWith_K (h₀ := X.base) I.ok.mod.kin hk (thn (ha pos pins s σ H _ I h) fun us s1 ⟨vs, H1, I1, r, q⟩ => ⟨I1.kIn, ?_⟩) he hpl
  exact run_fn F hr hb hd hx I1 r q
/-- o.m(e, ..) -/
theorem pe_meth {pl : Sem Bool} (he : PE X o ta) (c : Cls X.K C) (hm : Meth X.K C m f) (F : FnOk X.prog X.w X.K X.mg X.base CX k f fd ps sp) (hr : Room k X.A) (hb : Binds X.K fd ps ds) (hd : Vals dvs ds) (hx : Passes CX X E) (ha : PA X (e :: es) t)
    (hst : starEach (e :: es) X.env = (false, eval e X.env) :: starEach es X.env := by rfl) (hpl : (backTo pos (starEach es X.env)).any (·.1) = false := by rfl)
    (ht : eval (.Call (.Attribute o m apos) (e :: es) [] pos) X.env = (do
      let ov ← eval o X.env
      standAt apos.atName
      let (f, first) ← holding [ov] (getMethod ov m pl)
      callWith pos f first (backTo pos (starEach (e :: es) X.env)) (backToKw pos (keywordEach [] X.env))) := by rfl) :
    PE X (.Call (.Attribute o m apos) (e :: es) [] pos) (tMeth C m sp dvs E ta t) := by
  intro pins s σ H Q I h
  refine PySem.W.methodCall_KW (pl := pl) (thn (he pins s σ H _ I h) fun u s1 ⟨x, H1, I1, rx, a, dx, fs, ex, ea, l, q⟩ => ?_) ht
  subst ex
  obtain rfl : u = Value.ref a := rx
  refine getmeth_ok I1 ea c hm l ?_
  refine PySem.W.callWith_K (first := [.ref a]) (h₀ := X.base) I.ok.mod.kin hm.kp (thn (ha pos pins s1 σ H1 _ I1 q) fun us s2 ⟨vs, H2, I2, r, q2⟩ => ⟨I2.kIn, ?_⟩) hst hpl
  exact run_fn (us := .ref a :: us) (vs := .ref a :: vs) F hr hb hd hx I2 (.cons rfl r) q2
/-- what a class must have to be made -/
structure Mk (K : PySem.W.Frag) (C f : Addr) : Prop where
  makes : PySem.W.makesIn K C = true
  init : PySem.W.findIn K (.ref C) "__init__" = some (some (.ref f))
  fn : PySem.W.isFn K (.ref f) = true
  kp : PySem.W.keepIn K (.ref C) = true

theorem run_make {pins : List (Addr × Obj)} {σ : St} {H : Hp} {s : Shared} {Q : VK} {us : List Value} {vs : List V} (M : Mk X.K C f) (F : FnOk X.prog X.w X.K X.mg X.base CX k f fd ps sp) (hr : Room (k + 1) X.A) (hb : Binds X.K fd ps ds) (hd : Vals dvs ds)
    (hx : Passes CX X E) (I : Inv X pins σ H s) (r : Vals vs us)
    (h : ∀ x dx, H x = none → H dx = none → dx ≠ x → sp (.ref x :: (vs ++ dvs)) (upd (upd H dx (.own x)) x (.ins C dx [])) (fun v H2 => v = .non ∧ Q (.ref x) H2) E) :
    wpAny (model X.prog X.w) X.A (call (.ref C) us) (EP X pins σ Q) X.xe s := by
  have hq := h (s.heap.objs.size + 1) s.heap.objs.size (I.hok.fresh (Nat.le_succ _)) (I.hok.fresh (Nat.le_refl _)) (Nat.ne_of_lt (Nat.lt_succ_self _))
  have I2 := Inv.made (C := C) I
  have r2 : Vals (V.ref (s.heap.objs.size + 1) :: (vs ++ dvs)) (Value.ref (s.heap.objs.size + 1) :: (us ++ ds)) := .cons rfl (r.append hd)
  have hl : (Value.ref (s.heap.objs.size + 1) :: us ++ ds).length = ps.length := by
    have e := r2.length
    rw [F.len _ _ _ _ hq] at e
    exact e.symm
  refine wpAny_call (make_map (f := f) I.kIn M.makes M.init (beq_iff_eq.mp M.fn) (codeAny_mono (F.run _ X.stack _ _ ⟨Value.ref (s.heap.objs.size + 1) :: us, []⟩ (Value.ref (s.heap.objs.size + 1) :: (us ++ ds)) _ _ E (hr.make C us [])
    (I2.env0.make C us []) (hb _ (Value.ref (s.heap.objs.size + 1) :: us) I2.kIn hl) r2 hq) fun r s' hq' => ?_))
  cases r with
  | error e => exact hx pins σ _ _ e s' I2 hq'
  | ok fl =>
    cases fl with
    | ret u =>
      obtain ⟨v, H', I3, rv, ev, q3⟩ := I2.after hq'
      subst ev
      exact ⟨rv, ⟨V.ref (s.heap.objs.size + 1), H', I3, rfl, q3⟩⟩
    | next => exact False.elim hq'
    | brk => exact False.elim hq'
    | cont => exact False.elim hq'
theorem pe_make (M : Mk X.K C f) (F : FnOk X.prog X.w X.K X.mg X.base CX k f fd ps sp) (hr : Room (k + 1) X.A) (hg : Gl X x) (hm : X.mg x = some (.ref C)) (hb : Binds X.K fd ps ds) (hd : Vals dvs ds) (hx : Passes CX X E)
    (ha : PA X (e :: es) t) (hdb : (x == ("__debug__" : Str)) = false := by decide) (he : starEach (e :: es) X.env = (false, eval e X.env) :: starEach es X.env := by rfl) (hpl : (backTo pos (starEach es X.env)).any (·.1) = false := by rfl) :
    PE X (.Call (.Name x p) (e :: es) [] pos) (tMake C sp dvs E t) := by
  intro pins s σ H Q I h
  refine wpAny_Call_Name_kw (ld_glob I hg hm ?_ hdb)
  refine PySem.W.callWith_K (h₀ := X.base) I.ok.mod.kin M.kp (thn (ha pos pins s σ H _ I h) fun us s1 ⟨vs, H1, I1, r, q⟩ => ⟨I1.kIn, ?_⟩) he hpl
  exact run_make M F hr hb hd hx I1 r q
end

/-! ### keywords -/
section
variable {X : Cx} {CX : CXT} {k : Nat} {f C : Addr} {fd : FuncData} {ps ks : List Str} {sp : Sp} {E : XK} {x m : Str} {p pos apos kpos : Pos} {e o : Expr} {es : List Expr} {kws : List Keyword} {te ta : TE} {t tk : TA} {nm : Option Str}
variable {g : List Value → List Value → List Value} {gV : List V → List V → List V}
end

/-! ### a def's body keeps its promise -/
/-- names: the parameters first -/
structure FnScope (N P : List Str) (sc : Scope) : Prop where
  kind : sc.kind = .function
  co : sc.isCoroutine = false
  gen : sc.isGenerator = false
  nd : N.Nodup
  pre : N.take P.length = P
  par : ∀ x ∈ P, sc.names.lookup x = some .local ∨ sc.names.lookup x = some .cell
  nofree : ∀ y ∈ sc.names, y.2 ≠ .free

theorem bindL_out {kindOf : Str → Option NameKind} {x : Str} : ∀ {binds : List (Str × Value)} {m : Str → Option Value}, (∀ v, (x, v) ∉ binds) → bindL kindOf binds m x = m x
  | [], _, _ => rfl
  | (n, v) :: r, m, h => by
    unfold bindL
    rw [bindL_out fun w hw => h w (List.mem_cons_of_mem _ hw)]
    split
    · have : x ≠ n := by rintro rfl; exact h v List.mem_cons_self
      simp [this]
    · rfl
theorem bindC_out {kindOf : Str → Option NameKind} {x : Str} : ∀ {binds : List (Str × Value)} {m : Str → Option Value}, (∀ v, (x, v) ∉ binds) → bindC kindOf binds m x = m x
  | [], _, _ => rfl
  | (n, v) :: r, m, h => by
    unfold bindC
    rw [bindC_out fun w hw => h w (List.mem_cons_of_mem _ hw)]
    split
    · rfl
    · have : x ≠ n := by rintro rfl; exact h v List.mem_cons_self
      simp [this]
theorem bindL_get {kindOf : Str → Option NameKind} {x : Str} {v : Value} : ∀ {P : List Str} {vs : List Value} {i : Nat} {m : Str → Option Value}, P.Nodup → P[i]? = some x → vs[i]? = some v → kindOf x = some .local →
    bindL kindOf (P.zip vs) m x = some v
  | [], _, _, _, _, h, _, _ => by simp at h
  | _ :: _, [], _, _, _, _, h, _ => by simp at h
  | p :: P, w :: vs, 0, m, nd, h1, h2, hk => by
    simp at h1 h2; subst h1; subst h2
    show bindL kindOf ((p, w) :: P.zip vs) m p = _
    unfold bindL
    rw [bindL_out fun v hv => (List.nodup_cons.mp nd).1 (List.of_mem_zip hv).1, if_pos hk]
    simp
  | p :: P, w :: vs, i + 1, m, nd, h1, h2, hk => by
    show bindL kindOf ((p, w) :: P.zip vs) m x = _
    unfold bindL
    exact bindL_get (i := i) (List.nodup_cons.mp nd).2 (by simpa using h1) (by simpa using h2) hk
theorem bindC_get {kindOf : Str → Option NameKind} {x : Str} {v : Value} : ∀ {P : List Str} {vs : List Value} {i : Nat} {m : Str → Option Value}, P.Nodup → P[i]? = some x → vs[i]? = some v → kindOf x ≠ some .local →
    bindC kindOf (P.zip vs) m x = some v
  | [], _, _, _, _, h, _, _ => by simp at h
  | _ :: _, [], _, _, _, _, h, _ => by simp at h
  | p :: P, w :: vs, 0, m, nd, h1, h2, hk => by
    simp at h1 h2; subst h1; subst h2
    show bindC kindOf ((p, w) :: P.zip vs) m p = _
    unfold bindC
    rw [bindC_out fun v hv => (List.nodup_cons.mp nd).1 (List.of_mem_zip hv).1, if_neg hk]
    simp
  | p :: P, w :: vs, i + 1, m, nd, h1, h2, hk => by
    show bindC kindOf ((p, w) :: P.zip vs) m x = _
    unfold bindC
    exact bindC_get (i := i) (List.nodup_cons.mp nd).2 (by simpa using h1) (by simpa using h2) hk

/-- the names' values at the entry -/
def start (N : List Str) (vs : List V) : St := vs.map some ++ List.replicate (N.length - vs.length) none

/-- the context of a def's body, at its entry; an exception leaves the frame, then lies as CX says -/
def cxOf (CX : CXT) (P : Program) (w : World) (K : PySem.W.Frag) (mg : Str → Option Value) (base : Heap) (N : List Str) (qual : Str) (scope : Scope) (f : Addr) (cd : Value) (A : Around) (outer : List Env) (s : Shared) (H : Hp) (E : XK) : Cx where
  prog := P
  w := w
  K := K
  mg := mg
  base := base
  A := A.deeper (envOfC qual scope s.heap.objs.size f cd)
  N := N
  s_0 := s
  H_0 := H
  env := envOfC qual scope s.heap.objs.size f cd
  outer := outer
  stack := envOfC qual scope s.heap.objs.size f cd :: outer
  ex := []
  calm := true
  fn := fun _ => true
  pn := []
  xe := fun e s' => wpAny (model P w) (A.deeper (envOfC qual scope s.heap.objs.size f cd)) (leaving (envOfC qual scope s.heap.objs.size f cd) e) (fun _ s'' => CX outer H s E e s'') (fun e' s'' => CX outer H s E e' s'') s'

theorem cell_has {sc : Scope} {n : Nat} {x : Str} (h : sc.names.lookup x = some .cell) : ∃ c, (cellsFrom n sc.names []).lookup x = some c := by
  have q := PySem.W.cellsFrom_some sc.names n [] (.inl h)
  exact Option.isSome_iff_exists.mp q

theorem inv_start {CX : CXT} {P : Program} {w : World} {K : PySem.W.Frag} {mg : Str → Option Value} {base : Heap} {N ps : List Str} {qual : Str} {scope : Scope} {f : Addr} {cd : Value} {A : Around} {outer : List Env} {s s1 : Shared} {H : Hp} {E : XK} {us : List Value} {vs : List V}
    (S : FnScope N ps scope) (hd : A.handled = none) (e0 : Env0 P w K mg base A outer s H) (hl : vs.length = ps.length) (r : Vals vs us)
    (x : InCallC s s.heap.objs.size (bindL (envOfC qual scope s.heap.objs.size f cd).kindOf (ps.zip us) fun _ => none) (cellsFrom (s.heap.objs.size + 1) scope.names []) (bindC (envOfC qual scope s.heap.objs.size f cd).kindOf (ps.zip us) fun _ => none) s1) :
    Inv (cxOf CX P w K mg base N qual scope f cd A outer s H E) [] (start N vs) H s1 := by
  have hpl : ps.length ≤ N.length := by have := congrArg List.length S.pre; rw [List.length_take] at this; omega
  obtain ⟨h1, tk, rfl, hk⟩ := x.done
  have noA : ∀ b : Addr, b ∉ (cxOf CX P w K mg base N qual scope f cd A outer s H E).ex := fun b z => absurd (show b ∈ ([] : List Addr) from z) (by simp)
  refine ⟨⟨e0.mod, S.kind, rfl, rfl, Nat.le_refl _, fun y z c h1 h2 => ?_, fun y hy => ?_, fun y c _ h => ?_, fun _ => hd, Around.frames_deeper e0.frames, .inr ⟨rfl, rfl⟩, fun b z => absurd z (noA b), e0.bs, e0.bsz, fun b _ _ => noA b, fun b z => absurd z (noA b), e0.funs, e0.frf⟩,
    rfl, e0.bare, Un.kept hk, ⟨_, x.toInCall.ns, fun i y v h1 h2 h3 => ?_⟩, fun y c h => ⟨_, x.cell y c h⟩, e0.hok.fresh (Nat.le_refl _), fun y c h => ?_, fun p hp => absurd (show p ∈ ([] : List (Addr × Obj)) from hp) (by simp), e0.hok.kept hk, ?_⟩
  · exact name_of_addr x.apart (PySem.mem_of_lookup h1) (PySem.mem_of_lookup h2)
  · have hy : scope.names.lookup y = some .cell ∨ scope.names.lookup y = some .free := hy
    rcases hy with hy | hy
    · exact cell_has hy
    · exact absurd rfl (S.nofree _ (PySem.mem_of_lookup hy))
  · exact Nat.le_of_lt (x.above y c (PySem.mem_of_lookup h))
  · have hi : i < vs.length := by
      unfold start at h2
      by_cases hi : i < vs.length
      · exact hi
      · rw [List.getElem?_append_right (by simpa using hi)] at h2
        rw [List.getElem?_replicate] at h2
        split at h2 <;> cases h2
    have ha : vs[i]? = some v := by
      unfold start at h2
      rw [List.getElem?_append_left (by simpa using hi), List.getElem?_map] at h2
      cases e : vs[i]? with
      | none => rw [e] at h2; cases h2
      | some a => rw [e] at h2; cases h2; rfl
    obtain ⟨u, hu, rv⟩ := r.get ha
    have hp : ps[i]? = some y := by
      rw [← S.pre, List.getElem?_take_of_lt (by omega)]; exact h1
    have ndP : ps.Nodup := by rw [← S.pre]; exact S.nd.sublist (List.take_sublist _ _)
    refine ⟨u, rv, ?_⟩
    rcases S.par y (List.mem_of_getElem? hp) with k | k
    · exact .inl ⟨k, bindL_get ndP hp hu k⟩
    · obtain ⟨c, e⟩ := cell_has (n := s.heap.objs.size + 1) k
      refine .inr ⟨.inl k, c, e, ?_⟩
      have q := x.cell y c e
      rw [bindC_get ndP hp hu (by show scope.names.lookup y ≠ _; rw [k]; decide)] at q
      exact q
  · exact e0.hok.fresh (Nat.le_of_lt (x.above y c (PySem.mem_of_lookup h)))
  · unfold start
    show _ = N.length
    rw [List.length_append, List.length_map, List.length_replicate]
    omega

/-- THE RULE: a def (or a method) of the text, by its body. The body's reading t is chosen for each entry; it is run at the parameters' values -/
theorem fn_of {CX : CXT} {P : Program} {w : World} {K : PySem.W.Frag} {mg : Str → Option Value} {base : Heap} {k : Nat} {f : Addr} {name qual : Str} {params : Arguments} {body : List Stmt} {scope : Scope} {dV kV doc pm cdv ct oc : Value} {an od : Option Addr}
    {osl : Array (Option Value)} {N ps : List Str} {sp : Sp} (lk : K.lookup f = some ⟨oc, od, .func (PySem.W.fnOf name qual params body scope dV kV doc pm an cdv ct), osl⟩) (hcd : PySem.W.codeIn K cdv qual = true) (S : FnScope N ps scope)
    (len : ∀ vs H Q E, sp vs H Q E → vs.length = ps.length)
    (hbody : ∀ (A : Around) (outer : List Env) (s : Shared) (H : Hp) (vs : List V) (Q : VK) (E : XK), Room k (A.deeper (envOfC qual scope s.heap.objs.size f cdv)) → sp vs H Q E →
      ∃ t, PSs (cxOf CX P w K mg base N qual scope f cdv A outer s H E) body t ∧ t { nx := fun _ H' => Q .non H', rt := Q } (start N vs) H) :
    FnOk P w K mg base CX (k + 1) f (PySem.W.fnOf name qual params body scope dV kV doc pm an cdv ct) ps sp := by
  refine ⟨len, fun A outer s H args us vs Q E hr e0 hb r hsp => ?_⟩
  have hl := len _ _ _ _ hsp
  have KX : K.In s.heap := e0.mod.kin.keeps fun b o e => (e0.bs b o e).1
  have lim : s.heap.NoLimit := e0.mod.nolimit.keeps fun b o e => (e0.bs b o e).1
  have hkind : ∀ y ∈ ps.zip us, scope.names.lookup y.1 = some .local ∨ (scope.names.lookup y.1 = some .cell ∧ ((cellsFrom (s.heap.objs.size + 1) scope.names []).lookup y.1).isSome = true) := fun ⟨n, v⟩ hy => by
    rcases S.par n (List.of_mem_zip hy).1 with q | q
    · exact .inl q
    · exact .inr ⟨q, PySem.W.cellsFrom_some _ _ _ (.inl q)⟩
  refine codeAny_call_function hr.depth (KX _ _ lk) rfl S.co S.gen rfl (PySem.W.codeRec_of KX hcd) (hb _ _ _ _ ?_)
  refine wpAny_newFunctionEnv_cells S.kind hkind fun env he s1 x => ?_
  subst he
  refine ⟨lim.keeps x.toInCall.keep, codeAny_func ?_⟩
  obtain ⟨t, ht, hq⟩ := hbody A outer s H vs Q E (hr.deeper _) hsp
  have I : Inv (cxOf CX P w K mg base N qual scope f cdv A outer s H E) [] (start N vs) H s1 := inv_start S hr.hd e0 hl r x
  refine wpAny_mono (ht [] s1 (start N vs) H _ I hq) (fun fl s' hs => ?_) fun e s' hs => hs
  have fin : ∀ {σ' : St} {H' : Hp} {v : V} {u : Value}, Inv (cxOf CX P w K mg base N qual scope f cdv A outer s H E) [] σ' H' s' → RelV v u → Q v H' → CE outer P w H s Q u s' :=
    fun {σ' H' v u} J rv q => ⟨v, H', J.os, J.bare, J.base, J.hok, rv, q⟩
  cases fl with
  | ret u =>
    obtain ⟨v, σ', H', J, rv, q⟩ := hs
    exact fin J rv q
  | next =>
    obtain ⟨σ', H', J, q⟩ := hs
    exact fin (v := V.non) (u := Value.none) J rfl q
  | brk =>
    obtain ⟨_, _, _, q⟩ := hs
    exact False.elim q
  | cont =>
    obtain ⟨_, _, _, q⟩ := hs
    exact False.elim q
end L2

namespace L2
open PySem PySem.Spec PyProof.Rows
section
variable {X : Cx} {x : Str} {p pos : Pos} {e : Expr} {es : List Expr} {t : TA} {id T : String} {r : List V → Hp → VK → Prop}

def tCB (r : List V → Hp → VK → Prop) (t : TA) : TE := fun σ H Q => t σ H fun vs H1 => r vs H1 Q
/-- f(e, ..), f a built-in function -/
theorem pe_callB (hc : CallR X (.builtin id) r) (hg : Gl X x) (hm : X.mg x = none) (hv : bootBuiltins x = some (.builtin id)) (ha : PA X (e :: es) t) (hn : x ≠ "__name__" := by decide) (hdb : (x == ("__debug__" : Str)) = false := by decide)
    (he : starEach (e :: es) X.env = (false, eval e X.env) :: starEach es X.env := by rfl) (hpl : (backTo pos (starEach es X.env)).any (·.1) = false := by rfl) : PE X (.Call (.Name x p) (e :: es) [] pos) (tCB r t) := by
  intro pins s σ H Q I h
  refine wpAny_Call_Name_kw (ld_blt I hg hm hv ?_ hn hdb)
  exact PyProof.Rows.callWith_builtin1 (thn (ha pos pins s σ H _ I h) fun us s1 ⟨vs, H1, I1, r1, q1⟩ => hc pins s1 σ H1 vs us Q I1 r1 q1) he hpl
end
end L2

namespace HT
open PySem PyProof.Rows

section
open PySem.SeqAt
open PySem.AutoSeq1 (wpAny_loadPart')
open PySem.MeetsSeq PySem.MeetsSeq2 PySem.MeetsSeq3

end

section
variable {prog : Program} {w : World} {A : Around} {E : Value → Shared → Prop} {s : Shared}

/-! ### t[a:b], not the whole -/
end
end HT

namespace L2
open PySem PySem.Spec PyProof.Rows

/-! ### the parts of a slice -/
section
variable {X : Cx} {e : Expr} {te : TE} {lo hi : Option Expr} {tl th : TO} {pos p2 : Pos}

/-! ### t < u, t + u -/
end
end L2

namespace L2
open PySem PySem.Spec PyProof.Rows

/-! ### places -/
/-- the place that an index of any sign means -/
def ixN (n : Nat) (i : Int) : Option Nat := if 0 ≤ i then (if i < n then some i.toNat else none) else if -(n : Int) ≤ i then some (i + n).toNat else none
def atI {α : Type} (xs : List α) (i : Int) : Option α := (ixN xs.length i).bind fun j => xs[j]?
theorem ixN_seq {n : Nat} {i : Int} {j : Nat} (h : ixN n i = some j) : seqIndex? i n = some j ∧ j < n ∧ -(n : Int) ≤ i ∧ i < n := by
  unfold ixN at h
  by_cases h0 : 0 ≤ i
  · rw [if_pos h0] at h
    by_cases h1 : i < n
    · rw [if_pos h1] at h
      have e : i.toNat = j := Option.some.inj h
      exact ⟨by rw [seqIndex_of h0 h1, e], by omega, by omega, h1⟩
    · rw [if_neg h1] at h; cases h
  · rw [if_neg h0] at h
    by_cases h1 : -(n : Int) ≤ i
    · rw [if_pos h1] at h
      have e : (i + n).toNat = j := Option.some.inj h
      exact ⟨by rw [seqIndex_neg (by omega) h1, e], by omega, h1, by omega⟩
    · rw [if_neg h1] at h; cases h
theorem atI_get {α : Type} {xs : List α} {i : Int} {v : α} (h : atI xs i = some v) : ∃ j, seqIndex? i xs.length = some j ∧ xs[j]? = some v ∧ j < xs.length ∧ -(xs.length : Int) ≤ i ∧ i < xs.length := by
  unfold atI at h
  cases e : ixN xs.length i with
  | none => rw [e] at h; cases h
  | some j =>
    rw [e] at h
    obtain ⟨h1, h2, h3, h4⟩ := ixN_seq e
    exact ⟨j, h1, h, h2, h3, h4⟩
theorem atI_nat {α : Type} {xs : List α} {j : Nat} {v : α} (h : xs[j]? = some v) : atI xs (j : Int) = some v := by
  have hj : j < xs.length := (List.getElem?_eq_some_iff.mp h).1
  have e : ixN xs.length (j : Int) = some j := by
    unfold ixN
    rw [if_pos (by omega), if_pos (by omega)]; simp
  unfold atI; rw [e]; exact h
/-! ### what may be subscripted -/
/-- what stands as an index of a plain subscript -/
def PlainIx (b : Expr) : Prop := ∀ o i, subscripted b false o i = operate [o, i] (getItem o i)
/-- a subscript by values -/
def IxR (X : Cx) (r : R2) : Prop :=
  ∀ (value slice : Expr) (pins : List (Addr × Obj)) (s : Shared) (σ : St) (H : Hp) (x y : V) (v u : Value) (Q : VK), Inv X pins σ H s → RelV x v → RelV y u → r x y H Q →
    subscripted slice false v u = operate [v, u] (getItem v u) → wpAny (model X.prog X.w) X.A (subscriptTail value slice v u) (EP X pins σ Q) X.xe s
/-- a call of a builtin's method by values: the receiver, the arguments -/
def MtR (X : Cx) (id : String) (r : V → List V → Hp → VK → Prop) : Prop :=
  ∀ (pins : List (Addr × Obj)) (s : Shared) (σ : St) (H : Hp) (x : V) (xs : List V) (v : Value) (us : List Value) (Q : VK), Inv X pins σ H s → RelV x v → Vals xs us → r x xs H Q →
    wpAny (model X.prog X.w) X.A (call (.builtin id) (v :: us)) (EP X pins σ Q) X.xe s
section
variable {X : Cx} {a b : Expr} {ta tb : TE} {pos : Pos}
/-- a[b] -/
theorem pe_ix {r : R2} (hr : IxR X r) (ha : PE X a ta) (hb : PE X b tb) (hs : PlainIx b) : PE X (.Subscript a b pos) (tOp r ta tb) := by
  intro pins s σ H Q I h
  exact Subscript_ (binT ha hb I h fun v u s2 x y H2 I2 rx ry q => hr a b pins s2 σ H2 x y v u Q I2 rx ry q (hs _ _))

def rIxL (K : PySem.W.Frag) : R2 := fun x y H Q => ∃ p xs i v, x = .ref p ∧ y = .int i ∧ SqL K H p xs ∧ atI xs i = some v ∧ Q v H
theorem ix_list : IxR X (rIxL X.K) := by
  intro value slice pins s σ H x y v u Q I rx ry h hs
  obtain ⟨p, xs, i, z, rfl, rfl, hq, he, q⟩ := h
  cases rx
  obtain ⟨t, rfl⟩ := ry
  obtain ⟨its, r, pl, hz⟩ := I.list hq
  obtain ⟨j, h1, h2, h3, h4, h5⟩ := atI_get he
  obtain ⟨w, ew, rw'⟩ := r.get h2
  have hl := r.length
  have hn := line63
  have fin : EP X pins σ Q w s := ⟨z, H, I, rw', q⟩
  by_cases h0 : 0 ≤ i
  · have hj : i.toNat = j := by
      rw [seqIndex_of h0 h5] at h1
      exact Option.some.inj h1
    exact item_listR pl.isList h0 (by omega) (by rw [hj]; simpa using ew) fin hs
  · have hj : (i + (its.toArray.size : Int)).toNat = j := by
      rw [seqIndex_neg (by omega) h4] at h1
      rw [List.size_toArray, ← hl]
      exact Option.some.inj h1
    exact subscriptTail_builtinR (x := w) pl.isList.typeIs slot_list_getitem.lookup
      (wpAny_getItem_list_neg (Q := fun r s' => r = w ∧ EP X pins σ Q r s') pl.isList (by omega) (by rw [List.size_toArray] <;> omega) (by omega) (by rw [hj]; simpa using ew) ⟨rfl, fin⟩) hs
/-! ### xs[i] = v, any sign -/
/-! ### slices -/
/-! ### in, not in: flat items -/
def flatV : V → Bool
  | .non => true
  | .bl _ => true
  | .int _ => true
  | .str _ => true
  | _ => false
/-- == of flat values -/
def eqV : V → V → Bool
  | .non, .non => true
  | .bl a, .bl b => a == b
  | .bl a, .int b => (if a then 1 else 0) == b
  | .int a, .bl b => a == (if b then 1 else 0)
  | .int a, .int b => a == b
  | .str a, .str b => a == b
  | _, _ => false
theorem eqAt_V {A : Around} {s : Shared} {y x : V} {u v : Value} (ry : RelV y u) (rx : RelV x v) (fy : flatV y = true) (fx : flatV x = true) : SeqAt.EqAt A s u v (eqV y x) := by
  cases y with
  | non =>
    cases ry
    cases x with
    | non => cases rx; exact SeqAt.EqAt.same _
    | bl b => cases rx; exact SeqAt.EqAt.none_bool b
    | int b => obtain ⟨t, rfl⟩ := rx; exact SeqAt.EqAt.none_int b t
    | str b => obtain ⟨t, rfl⟩ := rx; exact SeqAt.EqAt.none_str b t
    | _ => exact absurd (show false = true from fx) Bool.false_ne_true
  | bl a =>
    cases ry
    cases x with
    | non => cases rx; exact SeqAt.EqAt.bool_none a
    | bl b => cases rx; exact SeqAt.EqAt.bool_bool a b
    | int b => obtain ⟨t, rfl⟩ := rx; exact SeqAt.EqAt.bool_int a b t
    | str b => obtain ⟨t, rfl⟩ := rx; exact SeqAt.EqAt.bool_str a b t
    | _ => exact absurd (show false = true from fx) Bool.false_ne_true
  | int a =>
    obtain ⟨t', rfl⟩ := ry
    cases x with
    | non => cases rx; exact SeqAt.EqAt.int_none a t'
    | bl b => cases rx; exact SeqAt.EqAt.int_bool a t' b
    | int b => obtain ⟨t, rfl⟩ := rx; exact SeqAt.EqAt.int_int a t' b t
    | str b => obtain ⟨t, rfl⟩ := rx; exact SeqAt.EqAt.int_str a t' b t
    | _ => exact absurd (show false = true from fx) Bool.false_ne_true
  | str a =>
    obtain ⟨t', rfl⟩ := ry
    cases x with
    | non => cases rx; exact SeqAt.EqAt.str_none a t'
    | bl b => cases rx; exact SeqAt.EqAt.str_bool a t' b
    | int b => obtain ⟨t, rfl⟩ := rx; exact SeqAt.EqAt.str_int a t' b t
    | str b => obtain ⟨t, rfl⟩ := rx; exact SeqAt.EqAt.str_str a t' b t
    | _ => exact absurd (show false = true from fx) Bool.false_ne_true
  | _ => exact absurd (show false = true from fy) Bool.false_ne_true
/-- the items' answers, read off the values (a value's own answer does not lean on its token) -/
def eqU (x : V) (u : Value) : Bool := match u with
  | .none => eqV .non x
  | .bool b => eqV (.bl b) x
  | .int i _ => eqV (.int i) x
  | .str z _ => eqV (.str z) x
  | _ => false
theorem eqU_of {x y : V} {u : Value} (r : RelV y u) (f : flatV y = true) : eqU x u = eqV y x := by
  cases y with
  | non => cases r; rfl
  | bl b => cases r; rfl
  | int i => obtain ⟨t, rfl⟩ := r; rfl
  | str z => obtain ⟨t, rfl⟩ := r; rfl
  | _ => exact absurd (show false = true from f) Bool.false_ne_true
theorem any_eqU {x : V} : ∀ {xs : List V} {us : List Value}, Vals xs us → xs.all flatV = true → us.any (eqU x) = xs.any fun y => eqV y x
  | _, _, .nil, _ => rfl
  | y :: xs, u :: us, .cons r t, f => by
    rw [List.all_cons, Bool.and_eq_true] at f
    rw [List.any_cons, List.any_cons, eqU_of r f.1, any_eqU t f.2]
theorem mem_eqAt {A : Around} {s : Shared} {x : V} {v : Value} (rx : RelV x v) (fx : flatV x = true) : ∀ {xs : List V} {us : List Value}, Vals xs us → xs.all flatV = true → ∀ u ∈ us, SeqAt.EqAt A s u v (eqU x u)
  | _, _, .nil, _ => fun u hu => by cases hu
  | y :: xs, u :: us, .cons r t, f => fun u' hu => by
    rw [List.all_cons, Bool.and_eq_true] at f
    rcases List.mem_cons.mp hu with rfl | hu
    · rw [eqU_of r f.1]; exact eqAt_V r rx f.1 fx
    · exact mem_eqAt rx fx t f.2 u' hu
def inV (x : V) (xs : List V) : Bool := xs.any fun y => eqV y x
/-- x in a list or tuple of flat items -/
def rIn (K : PySem.W.Frag) (neg : Bool) : R2 := fun x y H Q => ∃ p xs, y = .ref p ∧ (SqL K H p xs ∨ SqT K H p xs) ∧ flatV x = true ∧ xs.all flatV = true ∧ Q (.bl (if neg then !inV x xs else inV x xs)) H
theorem op_in_seq : OpR X (compareOp .In) (rIn X.K false) := by
  intro pins s σ H x y v u Q I rx ry h
  obtain ⟨p, xs, rfl, hq, fx, fs, q⟩ := h
  cases ry
  rcases hq with hq | hq
  · obtain ⟨its, r, pl, hz⟩ := I.list hq
    refine SeqAt.in_listAt (eqU x) pl.isList (fun w hw => mem_eqAt rx fx r fs w (by simpa using hw)) ⟨.bl _, H, I, rfl, ?_⟩
    rw [show its.toArray.any (eqU x) = its.any (eqU x) by simp, any_eqU r fs]
    exact q
  · obtain ⟨its, r, pl, hz⟩ := I.tuple hq
    refine SeqAt.in_tupleAt (eqU x) pl (fun w hw => mem_eqAt rx fx r fs w (by simpa using hw)) ⟨.bl _, H, I, rfl, ?_⟩
    rw [show its.toArray.any (eqU x) = its.any (eqU x) by simp, any_eqU r fs]
    exact q
/-! ### len, list(x), tuple(x) of any list or tuple that is read -/
theorem call_len_seq : CallR X (.builtin "len") (fun xs H Q => ∃ p ys, xs = [.ref p] ∧ (SqL X.K H p ys ∨ SqT X.K H p ys) ∧ Q (.int ys.length) H) := by
  intro pins s σ H xs us Q I r h
  obtain ⟨p, ys, rfl, hq, q⟩ := h
  obtain ⟨u, rfl, rx⟩ := vals1 r
  cases rx
  have hn := line63
  rcases hq with hq | hq
  · obtain ⟨its, r', pl, hz⟩ := I.list hq
    have hlen := r'.length
    exact Calls.call_len_list pl.isList (by simp only [List.size_toArray] <;> omega) ⟨.int ys.length, H, I.tok _, ⟨s.toks + 1, by rw [List.size_toArray, hlen]⟩, q⟩
  · obtain ⟨its, r', pl, hz⟩ := I.tuple hq
    have hlen := r'.length
    exact len_tuple pl (by simp only [List.size_toArray] <;> omega) ⟨.int ys.length, H, I.tok _, ⟨s.toks + 1, by rw [List.size_toArray, hlen]⟩, q⟩
/-! ### the call of a builtin's method: o.m(..) -/
/-- the value is of that builtin type -/
def tyV (K : PySem.W.Frag) (T : String) (x : V) (H : Hp) : Prop := match x with
  | .str _ => T = "str"
  | .int _ => T = "int"
  | .ref p => (T = "list" ∧ ∃ xs, SqL K H p xs) ∨ (T = "tuple" ∧ ∃ o, K.lookup p = some o ∧ o.cls = .type "tuple" ∧ o.dict = none) ∨
      (T = "dict" ∧ ((∃ kvs, H p = some (.dK kvs)) ∨ ∃ kvs, H p = some (.dT kvs))) ∨ (T = "set" ∧ ∃ S n, H p = some (.set S n))
  | _ => False
theorem tyV_is {pins : List (Addr × Obj)} {σ : St} {H : Hp} {s : Shared} {T : String} {x : V} {v : Value} (I : Inv X pins σ H s) (r : RelV x v) (ty : tyV X.K T x H) :
    s.TypeIs v T ∧ ∀ a, v = .ref a → ∃ ob, s.heap.get? a = some ob ∧ ob.dict = none := by
  cases x with
  | str z =>
    obtain ⟨t, rfl⟩ := r
    cases (show T = "str" from ty)
    exact ⟨typeIs_str s z t, fun _ e => nomatch e⟩
  | int i =>
    obtain ⟨t, rfl⟩ := r
    cases (show T = "int" from ty)
    exact ⟨typeIs_int s i t, fun _ e => nomatch e⟩
  | ref p =>
    cases r
    rcases ty with ⟨rfl, xs, hq⟩ | ⟨rfl, o, hk, hc, hd⟩ | ⟨rfl, hk⟩ | ⟨rfl, S, n, hk⟩
    · obtain ⟨its, _, pl, _⟩ := I.list hq
      refine ⟨pl.isList.typeIs, fun a e => ?_⟩
      cases e
      obtain ⟨o, n, e, c, hd, _⟩ := pl
      exact ⟨o, e, hd⟩
    · refine ⟨⟨o, I.kIn p o hk, hc⟩, fun a e => ?_⟩
      cases e
      exact ⟨o, I.kIn _ o hk, hd⟩
    · have z : ∃ o, s.heap.get? p = some o ∧ o.ExactDict := by
        rcases hk with ⟨kvs, hk⟩ | ⟨kvs, hk⟩
        · obtain ⟨_, _, _, _, o, _, _, e, ex, _⟩ := I.hok p _ hk
          exact ⟨o, e, ex⟩
        · obtain ⟨_, _, _, _, o, _, _, e, ex, _⟩ := I.hok p _ hk
          exact ⟨o, e, ex⟩
      obtain ⟨o, e, ex⟩ := z
      refine ⟨⟨o, e, ex.1⟩, fun a e2 => ?_⟩
      cases e2
      exact ⟨o, e, ex.2.1⟩
    · obtain ⟨o, _, _, _, e, ex, _⟩ := I.hok p _ hk
      refine ⟨⟨o, e, ex.1⟩, fun a e2 => ?_⟩
      cases e2
      exact ⟨o, e, ex.2.1⟩
  | _ => exact False.elim ty
def tBM0 (K : PySem.W.Frag) (T : String) (r : V → List V → Hp → VK → Prop) (to : TE) : TE := fun σ H Q => to σ H fun x H1 => tyV K T x H1 ∧ r x [] H1 Q
def tBM (K : PySem.W.Frag) (T : String) (r : V → List V → Hp → VK → Prop) (to : TE) (t : TA) : TE := fun σ H Q => to σ H fun x H1 => tyV K T x H1 ∧ t σ H1 fun xs H2 => r x xs H2 Q
variable {o e : Expr} {es : List Expr} {to : TE} {t : TA} {name : Str} {apos cpos : Pos} {T id : String} {r : V → List V → Hp → VK → Prop}
theorem pe_bm0 (pa : PlainAttrs T) (slot : Slot T name id) (hty : typeOf (.builtin id) = pure (.type "method_descriptor")) (hm : MtR X id r) (ho : PE X o to)
    (hbase : attributeBase o name X.env (eval o X.env) = eval o X.env := by rfl) (hline : (apos.endLine == cpos.line) = true := by rfl) : PE X (.Call (.Attribute o name apos) [] [] cpos) (tBM0 X.K T r to) := by
  intro pins s σ H Q I h
  refine wpAny_Call_method0_late hbase hline (thn (ho pins s σ H _ I h) fun v s1 ⟨x, H1, I1, r1, ty, q1⟩ => ?_)
  obtain ⟨h1, h2⟩ := tyV_is I1 r1 ty
  exact ⟨T, id, pa, slot, hty, h1, h2, Calls.callWith_builtin rfl (PySem.evalArgs_none (hm pins s1 σ H1 x [] v [] Q I1 r1 .nil q1))⟩
theorem pe_bm (pa : PlainAttrs T) (slot : Slot T name id) (hty : typeOf (.builtin id) = pure (.type "method_descriptor")) (hm : MtR X id r) (ho : PE X o to) (ha : PA X (e :: es) t)
    (hbase : attributeBase o name X.env (eval o X.env) = eval o X.env := by rfl)
    (hfew : ((backTo cpos (starEach (e :: es) X.env)).all (fun x => !x.1) && (backToKw cpos (keywordEach [] X.env)).all (fun x => x.1.isSome)
      && decide ((e :: es).length + ([] : List Keyword).length + (if ([] : List Keyword).isEmpty then 0 else 1) < 30)) = true := by rfl)
    (hline : (apos.endLine == cpos.line) = true := by rfl) (hs : starEach (e :: es) X.env = (false, eval e X.env) :: starEach es X.env := by rfl) (hplain : (backTo cpos (starEach es X.env)).any (·.1) = false := by rfl) :
    PE X (.Call (.Attribute o name apos) (e :: es) [] cpos) (tBM X.K T r to t) := by
  intro pins s σ H Q I h
  refine wpAny_Call_method_late hbase hfew hline rfl (thn (ho pins s σ H _ I h) fun v s1 ⟨x, H1, I1, r1, ty, q1⟩ => ?_)
  obtain ⟨h1, h2⟩ := tyV_is I1 r1 ty
  refine ⟨T, id, pa, slot, hty, h1, h2, ?_⟩
  have hA := ha cpos pins s1 σ H1 _ I1 q1
  rw [hs] at hA ⊢
  refine Calls.callWith_builtin (by show (false || (backTo cpos (starEach es X.env)).any (·.1)) = false; rw [hplain] <;> rfl) (Calls.evalArgs_plain ?_)
  exact thn hA fun us s2 ⟨vs, H2, I2, r2, q2⟩ => hm pins s2 σ H2 x vs v us Q I2 r1 r2 q2
/- xs.append(e), list.index on a module's tuple .. are MtR facts of 06m -/
end
end L2

namespace L2
open PySem PySem.Spec PyProof.Rows

def MtM (X : Cx) (id : String) (r : V → List V → Hp → VK → Prop) : Prop :=
  ∀ (pins : List (Addr × Obj)) (s : Shared) (σ : St) (H : Hp) (x : V) (xs : List V) (v : Value) (us : List Value) (Q : VK), Inv X pins σ H s → RelV x v → Vals xs us → r x xs H Q →
    wpAny (model X.prog X.w) X.A (call (.builtin id) (v :: us)) (EP X pins σ Q) X.xe s

/-! ### lists of values -/
theorem Vals.one : ∀ {x : V} {us : List Value}, Vals [x] us → ∃ u, us = [u] ∧ RelV x u
  | _, _, .cons r .nil => ⟨_, rfl, r⟩
theorem Vals.two : ∀ {x y : V} {us : List Value}, Vals [x, y] us → ∃ u v, us = [u, v] ∧ RelV x u ∧ RelV y v
  | _, _, _, .cons r (.cons q .nil) => ⟨_, _, rfl, r, q⟩
theorem Vals.zero : ∀ {us : List Value}, Vals [] us → us = []
  | _, .nil => rfl
theorem Vals.dropLast {xs : List V} {us : List Value} (h : Vals xs us) : Vals xs.dropLast us.dropLast := by
  induction h with
  | nil => exact .nil
  | cons r t ih =>
    cases t with
    | nil => exact .nil
    | cons q t' => exact .cons r ih
theorem Vals.eraseIdx : ∀ {xs : List V} {us : List Value} (i : Nat), Vals xs us → Vals (xs.eraseIdx i) (us.eraseIdx i)
  | _, _, _, .nil => .nil
  | _, _, 0, .cons _ t => t
  | _, _, i + 1, .cons r t => .cons r (Vals.eraseIdx i t)
theorem erase_last {α : Type} (l : List α) : l.eraseIdx (l.length - 1) = l.dropLast := by
  induction l with
  | nil => rfl
  | cons a r ih =>
    cases r with
    | nil => rfl
    | cons b r =>
      have e : (a :: b :: r).length - 1 = ((b :: r).length - 1) + 1 := by
        have h1 : (a :: b :: r).length = r.length + 2 := rfl
        have h2 : (b :: r).length = r.length + 1 := rfl
        omega
      rw [e, List.eraseIdx_cons_succ, ih]
      all_goals rfl
section
variable {X : Cx} {pins : List (Addr × Obj)} {σ : St} {H : Hp} {s : Shared} {l b : Addr} {xs ys zs : List V}

/-! ### the two steps: a tracked list is rewritten, a new list is laid -/
theorem Inv.lset {its its' : List Value} {n : Nat} {f : Array Value → Array Value} {t' : Nat} (I : Inv X pins σ H s) (hH : H l = some (.lst xs))
    (e : s.heap.get? l = some { cls := .type "list", data := .seq its.toArray n }) (hf : f its.toArray = its'.toArray) (hv : Vals ys its') (hz : ys.length ≤ sizeLine) :
    Inv X pins σ (upd H l (.lst ys)) { s with heap := s.heap.update l (Obj.mapSeq f), toks := t' } := by
  have q := PySem.IsL.update e f
  rw [hf] at q
  refine I.write (x := l) (e := l) (by rw [hH]; exact trivial) (.inl rfl) (fun b' u hb hu => (Heap.get?_update_other s.heap (Obj.mapSeq f) (Ne.symm hb)).trans hu) ⟨_, q⟩ ?_
  exact ⟨hz, its', _, hv, q⟩
theorem Inv.lstM (I : Inv X pins σ H s) (hH : H l = some (.lst xs)) : xs.length ≤ sizeLine ∧ ∃ (its : List Value) (n : Nat), Vals xs its ∧ xs.length = its.length ∧ s.heap.get? l = some { cls := .type "list", data := .seq its.toArray n } := by
  obtain ⟨z, its, n, r, e⟩ := I.hok l _ hH
  exact ⟨z, its, n, r, r.length, e⟩

end

section
variable {X : Cx}

/-! ### methods -/
def rAppend : V → List V → Hp → VK → Prop := fun x vs H Q => ∃ l xs y, x = .ref l ∧ vs = [y] ∧ H l = some (.lst xs) ∧ xs.length < sizeLine ∧ Q .non (upd H l (.lst (xs ++ [y])))
theorem mt_append : MtM X "list.append" rAppend := by
  intro pins s σ H x vs v us Q I rx rv h
  obtain ⟨l, xs, y, rfl, rfl, hH, hz, q⟩ := h
  cases rx
  obtain ⟨u, rfl, ru⟩ := rv.one
  obtain ⟨z, its, n, r, hl, e⟩ := I.lstM hH
  refine call_meets F.slot_list_append ⟨_, e, rfl⟩ F.entry_list_append (F.args_list_append_2 _ _) (PySem.list_append l its.toArray n u (by rw [List.size_toArray]; omega)) ⟨e, ?_⟩
  refine ⟨.non, _, I.lset (its' := its ++ [u]) hH e (by simp) (r.append (.cons ru .nil)) ?_, rfl, q⟩
  rw [List.length_append, List.length_singleton]
  omega

def rPop : V → List V → Hp → VK → Prop := fun x vs H Q => ∃ l xs y, x = .ref l ∧ vs = [] ∧ H l = some (.lst xs) ∧ xs[xs.length - 1]? = some y ∧ Q y (upd H l (.lst xs.dropLast))
theorem mt_pop : MtM X "list.pop" rPop := by
  intro pins s σ H x vs v us Q I rx rv h
  obtain ⟨l, xs, y, rfl, rfl, hH, hy, q⟩ := h
  cases rx
  have hus := rv.zero
  subst hus
  obtain ⟨z, its, n, r, hl, e⟩ := I.lstM hH
  obtain ⟨u, hu, ru⟩ := r.get hy
  have hy' : its.toArray[its.toArray.size - 1]? = some u := by
    show its.toArray[its.length - 1]? = some u
    rw [← Array.getElem?_toList, ← hl]
    exact hu
  refine call_meets F.slot_list_pop ⟨_, e, rfl⟩ F.entry_list_pop (F.args_list_pop_1 _) (MeetsSeq.list_pop_last l its.toArray n u hy' (by rw [List.size_toArray]; omega)) ⟨e, ?_⟩
  refine ⟨y, _, I.lset (its' := its.dropLast) hH e ?_ r.dropLast ?_, ru, q⟩
  · show its.toArray.eraseIdxIfInBounds (its.toArray.size - 1) = its.dropLast.toArray
    rw [List.size_toArray, List.eraseIdxIfInBounds_toArray, erase_last]
  · rw [List.length_dropLast]
    omega

/-! ### list + list, list += list, list * int -/
/-! ### del xs[i] -/
end

/-! ### xs[a:b] = ys -/
section
variable {prog : Program} {w : World} {A : Around} {E : Value → Shared → Prop} {s : Shared}
end

section
variable {X : Cx}
end
end L2

namespace L2
open PySem PySem.Spec PyProof.Rows

theorem Vals.bls : ∀ {bs : List Bool} {us : List Value}, Vals (bs.map V.bl) us → us = bs.map Value.bool
  | [], us, h => by
    rw [List.map_nil] at h
    cases h
    rfl
  | b :: bs, us, h => by
    rw [List.map_cons] at h
    cases h with
    | cons r t =>
      cases r
      rw [Vals.bls t, List.map_cons]
theorem Vals.ref1 {a : Addr} {us : List Value} (r : Vals [V.ref a] us) : us = [Value.ref a] := by
  cases r with
  | cons r t =>
    cases t
    cases r
    rfl
/-! ### the library's walks over a list of ints, kept objects alone -/
section
variable {prog : Program} {w : World} {A : Around} {E : Value → Shared → Prop} {s : Shared} {l : Addr} {its : List Value} {ns : List Int} {Q : Value → Shared → Prop}
end

/-! ### the calls, by values (CallR of 03t; MtR of 06l) -/
section
variable {X : Cx}
/-! sorted, sort (fewer than 64 items: the library's own bound) -/
end

/-! ### list.index, flat items -/
section
variable {X : Cx}
end

/-! ### type(x) of an own instance; is, is not of a module's class -/
section
variable {X : Cx}
end

/-! ### any(xs), all(xs) of a list of bools -/
theorem iter_any {prog : Program} {w : World} {A : Around} {E : Value → Shared → Prop} {s : Shared} {l : Addr} {items : Array Value} {Q : Value → Shared → Prop} (hl : s.heap.IsList l items)
    (h : ∀ s₂ : Shared, s₂ = { s with heap := s.heap.push { cls := .type "list_iterator", data := .fields #[.ref l, .int 0 0] } } →
      (s₂.heap.IsListIter s.heap.objs.size l 0 ∧ s₂.heap.IsList l items) → l ≠ s.heap.objs.size → Q (.ref s.heap.objs.size) s₂) : wpAny (model prog w) A (pyIter (.ref l)) Q E s := by
  have hlt : l < s.heap.objs.size := by obtain ⟨_, e, _⟩ := hl; exact Heap.lt_size e
  exact wpAny_pyIter_list hl (h _ rfl ⟨⟨_, Heap.get?_push_size _ rfl, rfl, rfl⟩, hl.push _⟩ (Nat.ne_of_lt hlt))
theorem truth_bools {prog : Program} {w : World} {A : Around} {bs : List Bool} {its : List Value} (e : its = bs.map Value.bool) :
    TruthOf prog w A (fun i v => its.toArray[i]? = some v) (fun i => bs.getD i false) := fun i v s Q E hv hq => by
  have hv' : its[i]? = some v := by simpa using hv
  rw [e, List.getElem?_map] at hv'
  obtain ⟨b, hb, rfl⟩ := Option.map_eq_some_iff.mp hv'
  have hg : bs.getD i false = b := by rw [List.getD_eq_getElem?_getD, hb] <;> rfl
  have hq' : Q (bs.getD i false) s := hq
  rw [hg] at hq'
  exact wpAny_truthy_bool hq'
theorem all_range : ∀ bs : List Bool, (List.range bs.length).all (fun i => bs.getD i false) = bs.all id
  | [] => rfl
  | b :: bs => by
    rw [List.length_cons, List.range_succ_eq_map, List.all_cons, List.all_map, List.all_cons, ← all_range bs]
    all_goals rfl
section
variable {X : Cx}
def rAll (K : PySem.W.Frag) : List V → Hp → VK → Prop := fun vs H Q => ∃ (a : Addr) (bs : List Bool), vs = [V.ref a] ∧ SqL K H a (bs.map V.bl) ∧ Q (.bl (bs.all id)) H
theorem cr_all (hc : X.calm = true) : CallR X (.builtin "all") (rAll X.K) := by
  intro pins s σ H vs us Q I r h
  obtain ⟨a, bs, rfl, hs, q⟩ := h
  obtain ⟨its, rv, hl, _⟩ := I.list hs
  rw [Vals.ref1 r]
  have hb := rv.bls
  refine call_all_walk (iter_any hl.isList fun s₂ e2 st hne => ?_)
  subst e2
  refine ⟨_, _, _, _, _, _, _, rfl, Walks.list (A := X.A.in1) (I.ok.hd hc) _ a hne its.toArray, st, truth_bools hb, fun h' tk hk => ?_⟩
  refine ⟨.bl _, H, I.kept fun b o eo => hk b o (fun hmem => ?_) (Heap.get?_push_of_some _ eo), ?_, q⟩
  · rcases List.mem_cons.mp hmem with e1 | hmem
    · exact absurd (e1 ▸ Heap.lt_size eo) (Nat.lt_irrefl _)
    · cases hmem
  · show Value.bool _ = Value.bool _
    rw [← all_range, hb, List.size_toArray, List.length_map]
end

/-! ### == and != of data at any depth: none, bools, ints, texts, lists, tuples -/
section
variable {X : Cx} {pins : List (Addr × Obj)} {σ : St} {H : Hp} {s : Shared}
end
section
variable {X : Cx}
end
end L2

namespace L2
open PySem PySem.Spec PyProof.Rows
abbrev CellAt (h : Heap) (c : Addr) (v : Option Value) : Prop := h.IsCell c v
def relS (scope sc : Scope) : Scope :=
  { scope with names := scope.names.map fun (n, k) => if (k == .free && sc.kind == .function && sc.names.lookup n == some .cell) then (n, .cell) else (n, k) }

def cloFrom (cells : List (Str × Addr)) : List (Str × NameKind) → List (Str × Addr) → List (Str × Addr)
  | [], acc => acc
  | (n, k) :: r, acc => if k == .free then cloFrom cells r ((n, (cells.lookup n).getD 0) :: acc) else cloFrom cells r acc

theorem closure_loop (env : Env) (f : Str × NameKind → List (Str × Addr) → Sem (ForInStep (List (Str × Addr))))
    (hf : ∀ n k c, f (n, k) c = if k == .free then (do let a ← cellOf env n; pure (.yield ((n, a) :: c))) else pure (.yield c)) :
    ∀ (names : List (Str × NameKind)) (acc : List (Str × Addr)), (∀ y ∈ names, y.2 = .free → ∃ c, env.cells.lookup y.1 = some c) → forIn names acc f = pure (cloFrom env.cells names acc)
  | [], acc, _ => by rw [List.forIn_nil]; rfl
  | (n, k) :: r, acc, h => by
    rw [List.forIn_cons, hf]
    have ih := fun acc => closure_loop env f hf r acc fun y hy => h y (List.mem_cons_of_mem _ hy)
    unfold cloFrom
    by_cases hk : (k == NameKind.free) = true
    · rw [if_pos hk, if_pos hk]
      obtain ⟨c, hc⟩ := h (n, k) List.mem_cons_self (by simpa using hk)
      have e : cellOf env n = pure c := by unfold cellOf; rw [hc]
      rw [e]
      have e2 : (env.cells.lookup n).getD 0 = c := by rw [hc]; rfl
      rw [e2]
      exact ih _
    · rw [if_neg hk, if_neg hk]
      exact ih _
theorem closure_ok {scope : Scope} {env : Env} (h : ∀ y ∈ scope.names, y.2 = .free → ∃ c, env.cells.lookup y.1 = some c) : closureFor scope env = pure (cloFrom env.cells scope.names []) := by
  simp only [closureFor]
  rw [closure_loop env _ (fun n k c => rfl) scope.names [] h]
  rfl

theorem mem_lookup {α : Type} : ∀ {l : List (Str × α)} {n : Str} {c : α}, (n, c) ∈ l → ∃ c', l.lookup n = some c'
  | (k, v) :: r, n, c, h => by
    rw [List.lookup_cons]
    cases hb : n == k with
    | true => exact ⟨_, rfl⟩
    | false =>
      rcases List.mem_cons.mp h with e | h
      · cases e; simp at hb
      · exact mem_lookup h

theorem cloFrom_mem {cells : List (Str × Addr)} : ∀ {names : List (Str × NameKind)} {acc : List (Str × Addr)} {n : Str} {c : Addr}, (n, c) ∈ cloFrom cells names acc → (n, c) ∈ acc ∨ ((n, .free) ∈ names ∧ c = (cells.lookup n).getD 0)
  | [], _, _, _, h => .inl h
  | (m, k) :: r, acc, n, c, h => by
    unfold cloFrom at h
    split at h
    · rename_i hk
      have hk : k = .free := by simpa using hk
      rcases cloFrom_mem h with h | ⟨h1, h2⟩
      · rcases List.mem_cons.mp h with e | h
        · cases e; exact .inr ⟨hk ▸ List.mem_cons_self, rfl⟩
        · exact .inl h
      · exact .inr ⟨List.mem_cons_of_mem _ h1, h2⟩
    · rcases cloFrom_mem h with h | ⟨h1, h2⟩
      · exact .inl h
      · exact .inr ⟨List.mem_cons_of_mem _ h1, h2⟩
theorem cloFrom_acc {cells : List (Str × Addr)} : ∀ {names : List (Str × NameKind)} {acc : List (Str × Addr)} {p : Str × Addr}, p ∈ acc → p ∈ cloFrom cells names acc
  | [], _, _, h => h
  | (m, k) :: r, acc, p, h => by
    unfold cloFrom
    split
    · exact cloFrom_acc (List.mem_cons_of_mem _ h)
    · exact cloFrom_acc h
theorem cloFrom_has {cells : List (Str × Addr)} : ∀ {names : List (Str × NameKind)} {acc : List (Str × Addr)} {n : Str}, (n, .free) ∈ names → (n, (cells.lookup n).getD 0) ∈ cloFrom cells names acc
  | (m, k) :: r, acc, n, h => by
    unfold cloFrom
    rcases List.mem_cons.mp h with e | h
    · cases e
      exact cloFrom_acc List.mem_cons_self
    · split
      · exact cloFrom_has h
      · exact cloFrom_has h

theorem cells_mem : ∀ {names : List (Str × NameKind)} {h : Heap} {acc : List (Str × Addr)} {x : Str} {c : Addr}, (x, c) ∈ cellsFrom h.objs.size names acc →
    (x, c) ∈ acc ∨ ((x, .cell) ∈ names ∧ h.objs.size ≤ c ∧ CellAt (pushCells h names) c none)
  | [], _, _, _, _, h => .inl h
  | (n, k) :: r, h, acc, x, c, hm => by
    unfold cellsFrom at hm
    unfold pushCells
    split at hm
    · rename_i hk
      rw [if_pos hk]
      have hk : k = .cell := by simpa using hk
      rw [← Heap.size_push h { cls := .type "cell", data := .cell none }] at hm
      rcases cells_mem hm with hm | ⟨h1, h2, h3⟩
      · rcases List.mem_cons.mp hm with e | hm
        · cases e
          exact .inr ⟨hk ▸ List.mem_cons_self, Nat.le_refl _, _, pushCells_keeps r _ _ _ (Heap.get?_push_size _ rfl), rfl⟩
        · exact .inl hm
      · rw [Heap.size_push] at h2
        exact .inr ⟨List.mem_cons_of_mem _ h1, Nat.le_of_succ_le h2, h3⟩
    · rename_i hk
      rw [if_neg hk]
      rcases cells_mem hm with hm | ⟨h1, h2, h3⟩
      · exact .inl hm
      · exact .inr ⟨List.mem_cons_of_mem _ h1, h2, h3⟩
theorem cells_acc : ∀ {names : List (Str × NameKind)} {n : Nat} {acc : List (Str × Addr)} {p : Str × Addr}, p ∈ acc → p ∈ cellsFrom n names acc
  | [], _, _, _, h => h
  | (m, k) :: r, n, acc, p, h => by
    unfold cellsFrom
    split
    · exact cells_acc (List.mem_cons_of_mem _ h)
    · exact cells_acc h
theorem cells_has : ∀ {names : List (Str × NameKind)} {n : Nat} {acc : List (Str × Addr)} {x : Str}, (x, .cell) ∈ names → ∃ c, (x, c) ∈ cellsFrom n names acc
  | (m, k) :: r, n, acc, x, h => by
    unfold cellsFrom
    rcases List.mem_cons.mp h with e | h
    · cases e
      exact ⟨n, cells_acc List.mem_cons_self⟩
    · split
      · exact cells_has h
      · exact cells_has h
theorem cells_inj : ∀ {names : List (Str × NameKind)} {h : Heap} {acc : List (Str × Addr)} {x y : Str} {c : Addr}, (∀ p ∈ acc, p.2 < h.objs.size) → (∀ x y c, (x, c) ∈ acc → (y, c) ∈ acc → x = y) →
    (x, c) ∈ cellsFrom h.objs.size names acc → (y, c) ∈ cellsFrom h.objs.size names acc → x = y
  | [], _, _, _, _, _, _, hi, h1, h2 => hi _ _ _ h1 h2
  | (n, k) :: r, h, acc, x, y, c, hl, hi, h1, h2 => by
    unfold cellsFrom at h1 h2
    split at h1
    · rename_i hk
      rw [if_pos hk] at h2
      rw [← Heap.size_push h { cls := .type "cell", data := .cell none }] at h1 h2
      refine cells_inj (h := h.push _) (fun p hp => ?_) (fun x y c a b => ?_) h1 h2
      · rw [Heap.size_push]
        rcases List.mem_cons.mp hp with rfl | hp
        · exact Nat.lt_succ_self _
        · exact Nat.lt_succ_of_lt (hl p hp)
      · rcases List.mem_cons.mp a with e | a <;> rcases List.mem_cons.mp b with e' | b
        · cases e; cases e'; rfl
        · cases e; exact absurd (hl _ b) (Nat.lt_irrefl _)
        · cases e'; exact absurd (hl _ a) (Nat.lt_irrefl _)
        · exact hi _ _ _ a b
    · rename_i hk
      rw [if_neg hk] at h2
      exact cells_inj hl hi h1 h2

theorem newEnv_comp {M : Model} {A : Around} {E : Value → Shared → Prop} {s : Shared} {scope : Scope} {globals : Addr} {closure : List (Str × Addr)} {qual : Str} {func : Option Addr} {code : Value} {around : Env} {builtins : Addr} {Q : Env → Shared → Prop}
    (h : Q (newEnv scope s.heap.objs.size globals (cellsFrom (s.heap.objs.size + 1) scope.names closure) qual func code (some around) builtins)
      { s with heap := pushCells (s.heap.push { cls := .type "dict", data := .dict #[] }) scope.names }) :
    wpAny M A (newFunctionEnv scope globals closure [] qual func code (some around) builtins) Q E s := by
  simp only [newFunctionEnv, Option.isSome_some, if_true]
  refine wpAny_bind (wpAny_alloc ?_)
  refine wpAny_bind (wpAny_layCells _ (fun n k c => rfl) scope.names closure _ _ ?_)
  rw [show ({ s with heap := s.heap.push { cls := .type "dict", data := .dict #[] } } : Shared).heap.objs.size = s.heap.objs.size + 1 from Heap.size_push ..]
  rw [List.forIn_nil]
  exact wpAny_bind (wpAny_pure (wpAny_pure h))

/-- every name of the written scope, in the scope that runs -/
theorem lookup_relS {sc : Scope} : ∀ {names : List (Str × NameKind)} {x : Str} {k : NameKind},
    (names.map fun (n, k) => if (k == NameKind.free && sc.kind == .function && sc.names.lookup n == some .cell) then (n, NameKind.cell) else (n, k)).lookup x = some k →
    ∃ k', names.lookup x = some k' ∧ (k = k' ∨ (k' = .free ∧ k = .cell))
  | [], _, _, h => by simp at h
  | (n, k₀) :: r, x, k, h => by
    have ih := @lookup_relS sc r x k
    have h' : List.lookup x ((if (k₀ == NameKind.free && sc.kind == .function && sc.names.lookup n == some .cell) = true then (n, NameKind.cell) else (n, k₀)) :: (r.map _)) = some k := h
    cases hx : x == n with
    | true =>
      simp only [List.lookup_cons, hx]
      by_cases hc : (k₀ == NameKind.free && sc.kind == .function && sc.names.lookup n == some .cell) = true
      · rw [if_pos hc] at h'
        simp only [List.lookup_cons, hx] at h'
        cases h'
        simp only [Bool.and_eq_true, beq_iff_eq] at hc
        exact ⟨k₀, rfl, .inr ⟨hc.1.1, rfl⟩⟩
      · rw [if_neg hc] at h'
        simp only [List.lookup_cons, hx] at h'
        cases h'
        exact ⟨_, rfl, .inl rfl⟩
    | false =>
      simp only [List.lookup_cons, hx]
      by_cases hc : (k₀ == NameKind.free && sc.kind == .function && sc.names.lookup n == some .cell) = true
      · rw [if_pos hc] at h'
        simp only [List.lookup_cons, hx] at h'
        exact ih h'
      · rw [if_neg hc] at h'
        simp only [List.lookup_cons, hx] at h'
        exact ih h'
/-- the names of a comprehension's block: its own (with their places in N), or captured -/
structure BlkOk (N : List Str) (sc scope : Scope) (own : List (Str × Nat)) : Prop where
  kind : scope.kind = .function
  uniq : ∀ y ∈ scope.names, scope.names.lookup y.1 = some y.2
  ix : ∀ p ∈ own, N[p.2]? = some p.1
  free : ∀ y ∈ scope.names, y.2 = .free → sc.names.lookup y.1 = some .cell ∨ sc.names.lookup y.1 = some .free
  own : ∀ y ∈ scope.names, y.2 = .local ∨ y.2 = .cell → y.1 ∈ own.map (·.1) ∨ y.1 ∉ N
/-- the slots of the block's own names forgotten -/
def wipe (σ : St) : List Nat → St
  | [] => σ
  | v :: vs => (wipe σ vs).set v none
theorem wipe_length (σ : St) : ∀ vs : List Nat, (wipe σ vs).length = σ.length
  | [] => rfl
  | v :: vs => by unfold wipe; rw [List.length_set, wipe_length σ vs]
theorem wipe_some {σ : St} {i : Nat} {x : V} : ∀ {vs : List Nat}, (wipe σ vs)[i]? = some (some x) → σ[i]? = some (some x) ∧ i ∉ vs
  | [], h => ⟨h, by simp⟩
  | v :: vs, h => by
    unfold wipe at h
    by_cases hi : v = i
    · subst hi
      by_cases hv : v < (wipe σ vs).length
      · rw [List.getElem?_set_self hv] at h; cases h
      · rw [List.getElem?_eq_none (by simpa using hv)] at h; cases h
    · rw [List.getElem?_set_ne hi] at h
      obtain ⟨h1, h2⟩ := wipe_some h
      exact ⟨h1, by simp only [List.mem_cons, not_or]; exact ⟨fun e => hi e.symm, h2⟩⟩

/-- the context of a block that starts at s, its iterator's objects at fp -/
abbrev Cx.blk (X : Cx) (s : Shared) (H : Hp) (scope : Scope) (cenv : Env) (fp : List Addr) : Cx := { X with s_0 := s, H_0 := H, env := cenv, outer := X.stack, ex := fp, fn := fun x => scope.names.lookup x == some .cell, pn := [], xe := fun _ _ => False }
section
variable {X : Cx} {pins : List (Addr × Obj)} {σ : St} {H : Hp} {s : Shared}
theorem block_start {scope : Scope} {own : List (Str × Nat)} {fp : List Addr} (I : Inv X pins σ H s) (ok : BlkOk X.N X.env.scope scope own) (hN : X.N.Nodup) (hfp : ∀ b ∈ fp, FpOk X pins H b ∧ b < s.heap.objs.size) :
    Inv (X.blk s H scope (compEnvC scope (cellsFrom (s.heap.objs.size + 1) scope.names (cloFrom X.env.cells scope.names [])) s.heap.objs.size X.env) fp) [] (wipe σ (own.map (·.2))) H { s with heap := pushCells (s.heap.push { cls := .type "dict", data := .dict #[] }) scope.names } := by
  have hfree : ∀ y ∈ scope.names, y.2 = .free → ∃ c, X.env.cells.lookup y.1 = some c := fun y hy e => by
    rcases ok.free y hy e with k | k
    · exact I.ok.has _ (.inl k)
    · exact I.ok.has _ (.inr k)
  generalize hcenv : compEnvC scope (cellsFrom (s.heap.objs.size + 1) scope.names (cloFrom X.env.cells scope.names [])) s.heap.objs.size X.env = cenv
  have kp : ∀ b o, s.heap.get? b = some o → (pushCells (s.heap.push { cls := .type "dict", data := .dict #[] }) scope.names).get? b = some o := fun b o e => pushCells_keeps _ _ _ _ (Heap.get?_push_of_some _ e)
  have hL : cenv.locals = s.heap.objs.size := by rw [← hcenv]; rfl
  have hcl : cenv.cells = cellsFrom (s.heap.objs.size + 1) scope.names (cloFrom X.env.cells scope.names []) := by rw [← hcenv]; rfl
  have hsc : cenv.scope = relS scope X.env.scope := by rw [← hcenv]; rfl
  rw [← Heap.size_push s.heap { cls := .type "dict", data := .dict #[] }] at hcl
  have cm : ∀ {y c}, (y, c) ∈ cloFrom X.env.cells scope.names [] → X.env.cells.lookup y = some c ∧ c < s.heap.objs.size := fun {y c} hm => by
    rcases cloFrom_mem hm with hm | ⟨h1, rfl⟩
    · cases hm
    · obtain ⟨c, hc⟩ := hfree _ h1 rfl
      rw [hc]
      obtain ⟨w, z⟩ := I.cell _ _ hc
      exact ⟨rfl, z.lt⟩
  have mem : ∀ {y c}, cenv.cells.lookup y = some c → (X.env.cells.lookup y = some c ∧ c < s.heap.objs.size) ∨ (s.heap.objs.size + 1 ≤ c ∧ CellAt (pushCells (s.heap.push { cls := .type "dict", data := .dict #[] }) scope.names) c none) := fun {y c} e => by
    rw [hcl] at e
    rcases cells_mem (PySem.mem_of_lookup e) with hm | ⟨_, h2, h3⟩
    · exact .inl (cm hm)
    · rw [Heap.size_push] at h2; exact .inr ⟨h2, h3⟩
  have look : ∀ {y}, scope.names.lookup y = some .free → ∃ c, cenv.cells.lookup y = some c ∧ X.env.cells.lookup y = some c := fun {y} hl => by
    have hy : (y, NameKind.free) ∈ scope.names := PySem.mem_of_lookup hl
    obtain ⟨c', e'⟩ := mem_lookup (cells_acc (names := scope.names) (n := (s.heap.push { cls := .type "dict", data := .dict #[] }).objs.size) (cloFrom_has (cells := X.env.cells) (acc := []) hy))
    rw [← hcl] at e'
    refine ⟨c', e', ?_⟩
    rw [hcl] at e'
    rcases cells_mem (PySem.mem_of_lookup e') with hm | ⟨h1, _, _⟩
    · exact (cm hm).1
    · have := ok.uniq _ h1
      rw [hl] at this; cases this
  have okB : (X.blk s H scope cenv fp).Ok := by
    refine ⟨I.ok.mod, by show cenv.scope.kind = _; rw [hsc]; exact ok.kind, by show cenv.globals = _; rw [← hcenv]; exact I.ok.glob, by show cenv.builtins = _; rw [← hcenv]; exact I.ok.blt, by show s.heap.objs.size ≤ cenv.locals; rw [hL]; exact Nat.le_refl _,
      fun y z c e1 e2 => ?_, fun y hy => ?_, fun y c z e => ?_, I.ok.hd, I.ok.frames, .inl rfl, fun b hb => ⟨?_, fun y c e z => ?_⟩, I.bs, Nat.le_trans I.ok.bsz I.sz, fun b o e hb => ?_, fun b hb z => ?_, I.stack, I.stkFree⟩
    · have e1 : cenv.cells.lookup y = some c := e1
      have e2 : cenv.cells.lookup z = some c := e2
      rw [hcl] at e1 e2
      refine cells_inj (fun p hp => ?_) (fun y z c a b => I.ok.inj y z c (cm a).1 (cm b).1) (PySem.mem_of_lookup e1) (PySem.mem_of_lookup e2)
      rw [Heap.size_push]
      exact Nat.lt_succ_of_lt (cm (y := p.1) (c := p.2) hp).2
    · show ∃ c, cenv.cells.lookup y = some c
      have key : ∀ k, cenv.kindOf y = some k → (k = .cell ∨ k = .free) → ∃ c, cenv.cells.lookup y = some c := fun k hk hk' => by
        unfold Env.kindOf at hk
        rw [hsc] at hk
        obtain ⟨k', e, r⟩ := lookup_relS hk
        have : k' = .cell ∨ k' = .free := by
          rcases r with rfl | ⟨rfl, _⟩
          · exact hk'
          · exact .inr rfl
        rcases this with rfl | rfl
        · obtain ⟨c, hm⟩ := cells_has (n := (s.heap.push { cls := .type "dict", data := .dict #[] }).objs.size) (acc := cloFrom X.env.cells scope.names []) (PySem.mem_of_lookup e)
          obtain ⟨c', e'⟩ := mem_lookup hm
          exact ⟨c', by rw [hcl]; exact e'⟩
        · obtain ⟨c, h1, _⟩ := look e
          exact ⟨c, h1⟩
      rcases hy with hy | hy
      · exact key _ hy (.inl rfl)
      · exact key _ hy (.inr rfl)
    · have z : (scope.names.lookup y == some NameKind.cell) = true := z
      have z : scope.names.lookup y = some .cell := by simpa using z
      have e : cenv.cells.lookup y = some c := e
      rw [hcl] at e
      rcases cells_mem (PySem.mem_of_lookup e) with hm | ⟨_, h2, _⟩
      · rcases cloFrom_mem hm with hm | ⟨h1, _⟩
        · cases hm
        · have q := ok.uniq _ h1
          rw [z] at q; cases q
      · rw [Heap.size_push] at h2
        exact Nat.le_of_succ_le h2
    · show b ≠ cenv.locals
      rw [hL]; exact Nat.ne_of_lt (hfp b hb).2
    · have e : cenv.cells.lookup y = some c := e
      rcases mem e with ⟨h1, _⟩ | ⟨h1, _⟩
      · exact (hfp b hb).1.2.2.2.2.1 y c h1 z
      · have h2 : s.heap.objs.size + 1 ≤ b := by rw [← z]; exact h1
        exact absurd (Nat.lt_of_lt_of_le (hfp b hb).2 (Nat.le_of_succ_le h2)) (Nat.lt_irrefl _)
    · rcases (hfp b hb).1.2.2.2.1 with z | z
      · exact I.ok.noex b o e z
      · exact absurd (Nat.lt_of_lt_of_le (Heap.lt_size e) (Nat.le_trans I.ok.bsz z)) (Nat.lt_irrefl _)
    · rcases List.mem_cons.mp (I.stkSub b z) with z | z
      · exact (hfp b hb).1.2.1 z
      · exact (hfp b hb).1.2.2.1 z
  refine ⟨okB, rfl, I.bare, Un.kept kp, ⟨fun _ => none, ?_, fun i y av e1 e2 e3 => ?_⟩, fun y c e => ?_, ?_, fun y c e => ?_, fun p hp => ?_, I.hok.kept kp, by rw [wipe_length]; exact I.len⟩
  · show Heap.Ns _ cenv.locals _
    rw [hL]
    exact Heap.Ns.keeps (Heap.Ns.new ..) fun b o e => pushCells_keeps _ _ _ _ e
  · obtain ⟨e2, hne⟩ := wipe_some e2
    have hfr : scope.names.lookup y = some .free ∧ (cenv.kindOf y = some .cell ∨ cenv.kindOf y = some .free) := by
      have key : ∀ k, cenv.scope.names.lookup y = some k → k = .local ∨ k = .cell ∨ k = .free → scope.names.lookup y = some .free ∧ (cenv.kindOf y = some .cell ∨ cenv.kindOf y = some .free) := fun k hk hk' => by
        have hk0 := hk
        rw [hsc] at hk
        obtain ⟨k', e, r⟩ := lookup_relS hk
        have no : ¬ (k' = .local ∨ k' = .cell) := fun hh => by
          rcases ok.own _ (PySem.mem_of_lookup e) hh with e' | e'
          · obtain ⟨p, hp, hpy⟩ := List.mem_map.mp e'
            have e3 := ok.ix p hp
            have : p.1 = y := hpy
            rw [this] at e3
            exact hne (List.mem_map.mpr ⟨p, hp, nodup_ix hN e3 e1⟩)
          · exact e' (List.mem_of_getElem? e1)
        rcases r with rfl | ⟨rfl, rfl⟩
        · rcases hk' with rfl | rfl | rfl
          · exact absurd (.inl rfl) no
          · exact absurd (.inr rfl) no
          · exact ⟨e, .inr hk0⟩
        · exact ⟨e, .inl hk0⟩
      have e3 : Vis cenv.scope y := e3
      rcases e3 with e3 | e3 | e3
      · exact key _ e3 (.inl rfl)
      · exact key _ e3 (.inr (.inl rfl))
      · exact key _ e3 (.inr (.inr rfl))
    obtain ⟨m, hn, hl⟩ := I.loc
    have hvis : Vis X.env.scope y := (ok.free _ (PySem.mem_of_lookup hfr.1) rfl).elim (fun k => .inr (.inl k)) (fun k => .inr (.inr k))
    obtain ⟨w, r, q⟩ := hl i y av e1 e2 hvis
    refine ⟨w, r, .inr ⟨hfr.2, ?_⟩⟩
    obtain ⟨c, h1, h2⟩ := look hfr.1
    rcases q with ⟨k, _⟩ | ⟨_, c', e', z⟩
    · have k : X.env.scope.names.lookup y = some .local := k
      rcases ok.free _ (PySem.mem_of_lookup hfr.1) rfl with k' | k' <;> rw [show X.env.scope.names.lookup y = _ from k'] at k <;> cases k
    · rw [h2] at e'; cases e'
      exact ⟨c, h1, z.keeps kp⟩
  · have e : cenv.cells.lookup y = some c := e
    rcases mem e with ⟨h1, _⟩ | ⟨_, z⟩
    · obtain ⟨w, z⟩ := I.cell y c h1
      exact ⟨w, z.keeps kp⟩
    · exact ⟨_, z⟩
  · show H cenv.locals = none
    rw [hL]; exact I.hok.fresh (Nat.le_refl _)
  · have e : cenv.cells.lookup y = some c := e
    rcases mem e with ⟨h1, _⟩ | ⟨h1, _⟩
    · exact I.freeC y c h1
    · exact I.hok.fresh (Nat.le_of_succ_le h1)
  · exact absurd (show p ∈ ([] : List (Addr × Obj)) ++ [] from hp) (by simp)

/-- an item appended to a tracked list -/
theorem app_ok {E : Value → Shared → Prop} {D : Addr} {xs : List V} {y : V} {v : Value} {Q : Value → Shared → Prop} (I : Inv X pins σ H s) (hD : H D = some (.lst xs)) (hz : xs.length < sizeLine) (r : RelV y v)
    (h : ∀ s', Inv X pins σ (upd H D (.lst (xs ++ [y]))) s' → Q .none s') : wpAny (model X.prog X.w) X.A (call (.builtin "list.append") [.ref D, v]) Q E s := by
  obtain ⟨hz', its, n, ri, e⟩ := I.hok D _ hD
  have hl := ri.length
  refine append_at (hsz := by rw [List.size_toArray]; omega) e fun h' sb ho' => ?_
  refine h { s with heap := h' } (I.write (t' := s.toks) (by rw [hD]; trivial) (.inl rfl) (fun b u hb q => (sb.2 b hb).trans q) ⟨_, ho'⟩ ⟨by rw [List.length_append]; exact hz, its ++ [v], n + 1, ri.append (.cons r .nil), ?_⟩)
  rw [ho']
  simp

/-- a clause's tests -/
def PTs (X : Cx) (ifs : List Expr) (t : TT) : Prop :=
  ∀ (pins : List (Addr × Obj)) (s : Shared) (σ : St) (H : Hp) (Q : Bool → Hp → Prop), Inv X pins σ H s → t σ H Q →
    wpAny (model X.prog X.w) X.A (forIn ifs true fun c r => if r = true then do let ok ← isTrue c X.env (eval c X.env); pure (ForInStep.yield ok) else pure (ForInStep.yield r)) (TP X pins σ Q) X.xe s
def tYes : TT := fun _ H Q => Q true H
theorem pts_nil : PTs X [] tYes := fun _ _ _ H _ I h => wpAny_tests_nil ⟨H, I, h⟩
end

theorem thnF {α : Type} {t : Sem α} {Q Q' : α → Shared → Prop} {M : Model} {A : Around} {E : Value → Shared → Prop} {s : Shared} (h : wpAny M A t Q (fun _ _ => False) s) (hQ : ∀ a s, Q a s → Q' a s) : wpAny M A t Q' E s := wpAny_mono h hQ fun _ _ z => False.elim z

/-- the loop of a list comprehension's block, the target of any form (codeAny_compLoop_tests asks a target that no tuple goes to; statement and proof follow it, PyProof/CompMap.lean:41-61, with the step letOwnedTupleGo kept) -/
theorem compLoop_any {prog : Program} {w : World} {A : Around} {R : Result → Shared → Prop} {s : Shared} {elt target iter : Expr} {ifs : List Expr} {scope : Scope} {pos : Pos} {it acc : Value} {env : Env} (I : Nat → Shared → Prop)
    (turn : ∀ n s, I n s → wpAny (model prog w) A (pyNext it) (fun r s₁ => match r with
      | none => R (.ok .next) s₁
      | some v => wpAny (model prog w) A (letOwnedTupleGo target it v) (fun _ s₁' => wpAny (model prog w) A (assign target env v) (fun _ s₂ =>
          wpAny (model prog w) A (forIn ifs true fun c r => if r = true then do let ok ← isTrue c env (eval c env); pure (ForInStep.yield ok) else pure (ForInStep.yield r)) (fun ok s₃ =>
            if ok = true then wpAny (model prog w) A (eval elt env) (fun x s₄ =>
              wpAny (model prog w) A (call (.builtin "list.append") [acc, x]) (fun _ s₅ => ∃ m, m < n ∧ I m s₅) (notedBy (model prog w) A env fun e s' => R (.error e) s') s₄) (notedBy (model prog w) A env fun e s' => R (.error e) s') s₃
            else ∃ m, m < n ∧ I m s₃) (notedBy (model prog w) A env fun e s' => R (.error e) s') s₂) (notedBy (model prog w) A env fun e s' => R (.error e) s') s₁') (notedBy (model prog w) A env fun e s' => R (.error e) s') s₁) (notedBy (model prog w) A env fun e s' => R (.error e) s') s)
    (n : Nat) (h : I n s) :
    codeAny (model prog w) A (.compLoop (.ListComp elt [⟨target, iter, ifs, 0⟩] scope pos) 0 it acc env) R s := by
  refine codeAny_loop rfl I (fun n s hI => ?_) n h
  show wpAny _ A ((compTurn (.ListComp elt [⟨target, iter, ifs, 0⟩] scope pos) 0 it acc env).onRaise (fun x => do noteFrame x env; theTreesLotGoes x)) _ _ s
  refine wpAny_noted ?_
  rw [compTurn_list]
  refine wpAny_bind (wpAny_standAt (wpAny_bind (wpAny_mono (turn n s hI) (fun r s₁ h₁ => ?_) fun _ _ h' => h')))
  cases r with
  | none => exact wpAny_pure h₁
  | some v =>
    refine wpAny_bind (wpAny_mono h₁ (fun _ s₁' h₁' => ?_) fun _ _ h' => h')
    refine wpAny_bind (wpAny_mono h₁' (fun _ s₂ h₂ => wpAny_bind (wpAny_mono h₂ (fun ok s₃ h₃ => ?_) fun _ _ h' => h')) fun _ _ h' => h')
    cases ok with
    | false => exact wpAny_pure ⟨rfl, h₃⟩
    | true =>
      exact wpAny_bind (wpAny_bind (wpAny_mono h₃ (fun x s₄ h₄ => wpAny_bind (wpAny_mono h₄ (fun _ s₅ h₅ => wpAny_pure (wpAny_pure ⟨rfl, h₅⟩)) fun _ _ h' => h')) fun _ _ h' => h'))

section
variable {X : Cx}
/-- [elt for target in iter if ..]: D the new list; W by the turn and a measure, Nx what a turn is to reach -/
def tLc (wi : TI) (g : TG) (tt : TT) (te : TE) (vs : List Nat) : TE := fun σ H Q => wi σ H fun J H1 => ∀ D, H1 D = none → ∃ W : Nat → Nat → Hp → Prop, (∃ m, W 0 m (upd H1 D (.lst []))) ∧ ∀ i m H, W i m H →
  (J.stop i H ∧ Q (.ref D) H) ∨ (J.go i H ∧ ∃ Nx : Hp → Prop, (∀ H', Nx H' → ∃ m', m' < m ∧ W (i + 1) m' H') ∧ ∀ x H', J.yld i H x H' → g x (wipe σ vs) H' fun σ2 H2 => wipe σ2 vs = wipe σ vs ∧ tt σ2 H2 fun b H3 =>
    if b = true then te σ2 H3 fun y H4 => ∃ acc, H4 D = some (.lst acc) ∧ acc.length < sizeLine ∧ Nx (upd H4 D (.lst (acc ++ [y]))) else Nx H3)
theorem lc_core {pins : List (Addr × Obj)} {s : Shared} {σ : St} {H : Hp} {Q : VK} {elt tg iter : Expr} {ifs : List Expr} {scope : Scope} {own : List (Str × Nat)} {pos pos' : Pos} {wi : TI} {g : TG} {tt : TT} {te : TE} {use : Option (Value → Sem Unit)} {Qf : Value → Shared → Prop}
    (hc : X.calm = true) (hN : X.N.Nodup) (I : Inv X pins σ H s) (hi : PI X tg iter wi) (ok : BlkOk X.N X.env.scope scope own)
    (hg : ∀ (s : Shared) (H : Hp) (C : Addr) (cl : List (Str × Addr)) (fp : List Addr), PG (X.blk s H scope (compEnvC scope cl C X.env) fp) tg g) (ht : ∀ (s : Shared) (H : Hp) (C : Addr) (cl : List (Str × Addr)) (fp : List Addr), PTs (X.blk s H scope (compEnvC scope cl C X.env) fp) ifs tt)
    (he : ∀ (s : Shared) (H : Hp) (C : Addr) (cl : List (Str × Addr)) (fp : List Addr), PE (X.blk s H scope (compEnvC scope cl C X.env) fp) elt te) (hs : ∀ x, foldedSetIterable iter X.env x = pure x)
    (h : tLc wi g tt te (own.map (·.2)) σ H Q)
    (hRR : ∀ D C s' m H', Inv X pins σ H' s' → Q (.ref D) H' → s'.heap.Ns C m → FpOk X pins H' C → compPost (model X.prog X.w) X.A X.xe use Qf (.ref D) C (.ok .next) s') :
    wpAny (model X.prog X.w) X.A (comprehension (.ListComp elt [⟨tg, iter, ifs, 0⟩] scope pos) scope X.env pos' (newList []) false (eval iter X.env) use) Qf X.xe s := by
  have hfree : ∀ y ∈ scope.names, y.2 = .free → ∃ c, X.env.cells.lookup y.1 = some c := fun y hy e => by
    rcases ok.free y hy e with k | k
    · exact I.ok.has _ (.inl k)
    · exact I.ok.has _ (.inr k)
  refine wpAny_comprehension_free (use := use) rfl hs (closure_ok hfree) ok.kind (fun y hy e => by rw [ok.uniq y hy, e])
    (thn (hi pins s σ H _ I h) fun xv s1 hx => thn hx fun itv s2 h2 => ?_)
  obtain ⟨it, fp, tn, J, H2, e, I2, T, st2, f2, q⟩ := h2
  subst e
  refine wpAny_newObj_type (newEnv_comp ?_) (by show 0 ≤ sizeLine; decide)
  generalize hD : s2.heap.objs.size = D
  have hDn : H2 D = none := I2.hok.fresh (Nat.le_of_eq hD)
  obtain ⟨W, ⟨m0, w0⟩, turn⟩ := q D hDn
  -- the new list
  generalize hs3 : ({ s2 with heap := s2.heap.push { cls := .type "list", data := .seq ([] : List Value).toArray } } : Shared) = s3
  have I3 : Inv X pins σ (upd H2 D (.lst [])) s3 := by
    rw [← hs3]
    refine I2.laid (t' := s2.toks) (fun b o e => Heap.get?_push_of_some _ e) (Nat.le_of_eq hD) ⟨Nat.zero_le _, [], 0, .nil, ?_⟩
    rw [← hD]
    exact Heap.get?_push_size _ rfl
  have h3 : s3.heap = s2.heap.push { cls := .type "list", data := .seq ([] : List Value).toArray } := by rw [← hs3]
  have sz : ∀ b ∈ fp, b < s2.heap.objs.size := fun b hb => by
    obtain ⟨o, e, _⟩ := T.obj _ _ st2 b hb
    exact Heap.lt_size e
  have f3 : ∀ b ∈ fp, FpOk X pins (upd H2 D (.lst [])) b ∧ b < s3.heap.objs.size := fun b hb => by
    have hlt := sz b hb
    refine ⟨⟨?_, (f2 b hb).2⟩, by rw [h3, Heap.size_push]; exact Nat.lt_succ_of_lt hlt⟩
    rw [upd_ne (by rw [← hD]; exact Nat.ne_of_lt hlt)]
    exact (f2 b hb).1
  have st3 : tn 0 s3.heap := T.keep _ _ _ st2 fun b _ o e => by rw [h3]; exact Heap.get?_push_of_some _ e
  have I4 := block_start I3 ok hN f3
  have pg := hg s3 (upd H2 D (.lst [])) s3.heap.objs.size (cellsFrom (s3.heap.objs.size + 1) scope.names (cloFrom X.env.cells scope.names [])) fp
  have pt := ht s3 (upd H2 D (.lst [])) s3.heap.objs.size (cellsFrom (s3.heap.objs.size + 1) scope.names (cloFrom X.env.cells scope.names [])) fp
  have pe := he s3 (upd H2 D (.lst [])) s3.heap.objs.size (cellsFrom (s3.heap.objs.size + 1) scope.names (cloFrom X.env.cells scope.names [])) fp
  show codeAny _ _ (.compStart (.ListComp elt [⟨tg, iter, ifs, 0⟩] scope pos) 0 (.ref it) (.ref D) (compEnvC scope (cellsFrom (s3.heap.objs.size + 1) scope.names (cloFrom X.env.cells scope.names [])) s3.heap.objs.size X.env)) (compPost (model X.prog X.w) X.A X.xe use Qf (.ref D) s3.heap.objs.size) { s3 with heap := pushCells (s3.heap.push { cls := .type "dict", data := .dict #[] }) scope.names }
  have nfp : ∀ b ∈ fp, (upd H2 D (.lst [])) b = none := fun b hb => (f3 b hb).1.1
  generalize hce : compEnvC scope (cellsFrom (s3.heap.objs.size + 1) scope.names (cloFrom X.env.cells scope.names [])) s3.heap.objs.size X.env = ce at I4 pg pt pe ⊢
  have cL : ce.locals = s3.heap.objs.size := by subst hce; rfl
  generalize hH3 : upd H2 D (.lst []) = H3 at I3 I4 pg pt pe w0 nfp f3
  generalize hs4 : ({ s3 with heap := pushCells (s3.heap.push { cls := .type "dict", data := .dict #[] }) scope.names } : Shared) = s4 at I4 ⊢
  have st4 : tn 0 s4.heap := T.keep _ _ _ st3 fun b _ o e => by rw [← hs4]; exact pushCells_keeps _ _ _ _ (Heap.get?_push_of_some _ e)
  have stat : ∀ {σ' : St} {H' : Hp} {s' : Shared}, Inv (X.blk s3 H3 scope ce fp) [] σ' H' s' → (∀ b ∈ fp, H' b = none) → ∀ b ∈ fp, FpOk (X.blk s3 H3 scope ce fp) [] H' b := fun {σ' H' s'} I' hn b hb =>
    ⟨hn b hb, (I'.ok.exf b hb).1, I'.ok.exfs b hb, .inl hb, fun x c e => (I'.ok.exf b hb).2 x c e, fun p hp => absurd (show p ∈ ([] : List (Addr × Obj)) ++ [] from hp) (by simp)⟩
  have loop : codeAny (model X.prog X.w) X.A (.compLoop (.ListComp elt [⟨tg, iter, ifs, 0⟩] scope pos) 0 (.ref it) (.ref D) ce) (compPost (model X.prog X.w) X.A X.xe use Qf (.ref D) s3.heap.objs.size) s4 := by
    refine compLoop_any (fun n s' => ∃ i H', Inv (X.blk s3 H3 scope ce fp) [] (wipe σ (own.map (·.2))) H' s' ∧ tn i s'.heap ∧ (∀ b ∈ fp, H' b = none) ∧ W i n H') ?_ m0 ⟨0, H3, I4, st4, nfp, w0⟩
    rintro n s5 ⟨i, H5, I5, st5, n5, w5⟩
    rcases turn i n H5 w5 with ⟨stop, qq⟩ | ⟨go, Nx, hNx, step⟩
    · have td := T.done (X.blk s3 H3 scope ce fp) rfl rfl rfl hc i [] s5 _ H5 (fun _ _ => False) I5 (stat I5 n5) st5 stop
      refine thnF td fun r s6 ⟨hr, I6⟩ => ?_
      subst hr
      -- back in the def's context
      have I7 : Inv X pins σ H5 s6 := I3.call' (ch := fp) I6.os I6.base I6.hok I6.bare fun b hb => ⟨(f3 b hb).1.2.2.2.1, (f3 b hb).1.2.1, (f3 b hb).1.2.2.2.2.1, (f3 b hb).1.2.2.2.2.2⟩
      have nC : H5 s3.heap.objs.size = none := by
        have z : H5 ce.locals = none := I6.free
        rw [cL] at z
        exact z
      obtain ⟨m, hn, _⟩ := I6.loc
      have hn : s6.heap.Ns ce.locals m := hn
      rw [cL] at hn
      exact hRR D s3.heap.objs.size s6 m H5 I7 qq hn (I3.fpOk (Nat.le_refl _) nC)
    · have ti := T.item (X.blk s3 H3 scope ce fp) rfl rfl rfl hc i [] s5 _ H5 (fun _ _ => False) I5 (stat I5 n5) st5 go
      refine thnF ti fun r s6 ⟨u, hr, h6⟩ => ?_
      subst hr
      refine thnF h6 fun _ s7 ⟨x, H7, I7, r7, y7, st7, n7⟩ => ?_
      have I7' := I7.pinned (stat I7 n7) (T.obj _ _ st7)
      refine thnF (pg _ s7 _ H7 x u _ I7' r7 (step x H7 y7)) fun _ s8 ⟨σ8, H8, I8, hw8, q8⟩ => ?_
      refine thnF (pt _ s8 σ8 H8 _ I8 q8) fun b s9 ⟨H9, I9, q9⟩ => ?_
      -- the turn's end
      have fin : ∀ {s' : Shared} {H' : Hp}, Inv (X.blk s3 H3 scope ce fp) ([] ++ pinsAt fp s7.heap) σ8 H' s' → Nx H' → ∃ m, m < n ∧ ∃ i H', Inv (X.blk s3 H3 scope ce fp) [] (wipe σ (own.map (·.2))) H' s' ∧ tn i s'.heap ∧ (∀ b ∈ fp, H' b = none) ∧ W i m H' := fun {s' H'} I' nx => by
        obtain ⟨m', hm, w'⟩ := hNx H' nx
        have pin' : ∀ b ∈ fp, ∀ o, s7.heap.get? b = some o → s'.heap.get? b = some o ∧ H' b = none := fun b hb o e =>
          let z := I'.pin (b, o) (List.mem_append_right _ (List.mem_append_right _ (mem_pinsAt hb e)))
          ⟨z.1, z.2.1⟩
        have hl : (wipe σ (own.map (·.2))).length = σ8.length := by rw [← hw8, wipe_length]
        refine ⟨m', hm, i + 1, H', (I'.unpinned (pins := [])).weak hl (fun j v e => ?_), T.keep _ _ _ st7 fun b hb o e => (pin' b hb o e).1, fun b hb => ?_, w'⟩
        · rw [← hw8] at e
          exact (wipe_some e).1
        · obtain ⟨o, e, _⟩ := T.obj _ _ st7 b hb
          exact (pin' b hb o e).2
      cases b with
      | false =>
        simp only [Bool.false_eq_true, if_false] at q9 ⊢
        exact fin I9 q9
      | true =>
        simp only [if_true] at q9 ⊢
        refine thnF (pe _ s9 σ8 H9 _ I9 q9) fun z s10 ⟨yv, H10, I10, r10, acc, hD10, hz10, nx⟩ => ?_
        exact app_ok (X := X.blk s3 H3 scope ce fp) I10 hD10 hz10 r10 fun s11 I11 => fin I11 nx
  exact codeAny_compStart_list loop (T.self X.A 0 _ _ _ st4 loop)
/-- as a value -/
theorem pe_lc {elt tg iter : Expr} {ifs : List Expr} {scope : Scope} {own : List (Str × Nat)} {pos : Pos} {wi : TI} {g : TG} {tt : TT} {te : TE} (hc : X.calm = true) (hN : X.N.Nodup) (hi : PI X tg iter wi) (ok : BlkOk X.N X.env.scope scope own)
    (hg : ∀ (s : Shared) (H : Hp) (C : Addr) (cl : List (Str × Addr)) (fp : List Addr), PG (X.blk s H scope (compEnvC scope cl C X.env) fp) tg g) (ht : ∀ (s : Shared) (H : Hp) (C : Addr) (cl : List (Str × Addr)) (fp : List Addr), PTs (X.blk s H scope (compEnvC scope cl C X.env) fp) ifs tt)
    (he : ∀ (s : Shared) (H : Hp) (C : Addr) (cl : List (Str × Addr)) (fp : List Addr), PE (X.blk s H scope (compEnvC scope cl C X.env) fp) elt te) (hs : ∀ x, foldedSetIterable iter X.env x = pure x := by intro _; rfl) :
    PE X (.ListComp elt [⟨tg, iter, ifs, 0⟩] scope pos) (tLc wi g tt te (own.map (·.2))) := by
  intro pins s σ H Q I h
  rw [eval_ListComp]
  refine lc_core hc hN I hi ok hg ht he hs h fun D C s' m H' I' q hn f => ⟨m, hn, fun h'' sb => ?_⟩
  obtain ⟨f0, f1, f2, f3, f4, f5⟩ := f
  exact ⟨.ref D, H', I'.turned (t' := s'.toks) (fun b o hb e => (sb.2 b hb).trans e) f0 f1 f3 f4 f5, rfl, q⟩
end

/-! ### the forms one uses -/
/-- over a range: Pv by the turn and the heap (the new list at D within) -/
theorem lc_range {lo : Int} {n : Nat} {g : TG} {tt : TT} {te : TE} {vs : List Nat} {σ : St} {H1 : Hp} {D : Addr} {Qd : Hp → Prop} (Pv : Nat → Hp → Prop) (h0 : Pv 0 (upd H1 D (.lst [])))
    (hs : ∀ i H, i < n → Pv i H → g (.int (lo + i)) (wipe σ vs) H fun σ2 H2 => wipe σ2 vs = wipe σ vs ∧ tt σ2 H2 fun b H3 =>
      if b = true then te σ2 H3 fun y H4 => ∃ acc, H4 D = some (.lst acc) ∧ acc.length < sizeLine ∧ Pv (i + 1) (upd H4 D (.lst (acc ++ [y]))) else Pv (i + 1) H3) (hd : ∀ H, Pv n H → Qd H) :
    ∃ W : Nat → Nat → Hp → Prop, (∃ m, W 0 m (upd H1 D (.lst []))) ∧ ∀ i m H, W i m H →
      ((Itr lo n).stop i H ∧ Qd H) ∨ ((Itr lo n).go i H ∧ ∃ Nx : Hp → Prop, (∀ H', Nx H' → ∃ m', m' < m ∧ W (i + 1) m' H') ∧ ∀ x H', (Itr lo n).yld i H x H' → g x (wipe σ vs) H' fun σ2 H2 => wipe σ2 vs = wipe σ vs ∧ tt σ2 H2 fun b H3 =>
        if b = true then te σ2 H3 fun y H4 => ∃ acc, H4 D = some (.lst acc) ∧ acc.length < sizeLine ∧ Nx (upd H4 D (.lst (acc ++ [y]))) else Nx H3) := by
  refine ⟨fun i m H => m = n - i ∧ i ≤ n ∧ Pv i H, ⟨n, by simp, Nat.zero_le _, h0⟩, ?_⟩
  rintro i m H ⟨rfl, hi, p⟩
  by_cases hlt : i < n
  · refine .inr ⟨hlt, Pv (i + 1), fun H' p' => ⟨n - (i + 1), by omega, rfl, hlt, p'⟩, fun x H' y => ?_⟩
    obtain ⟨e, y⟩ := y
    subst e y
    exact hs i _ hlt p
  · have e : i = n := by omega
    subst e
    exact .inl ⟨Nat.le_refl _, hd H p⟩
def blkC (N : List Str) (sc scope : Scope) (own : List (Str × Nat)) : Bool :=
  (match scope.kind with | .function => true | _ => false) && (scope.names.all fun y => decide (scope.names.lookup y.1 = some y.2)) && (own.all fun p => decide (N[p.2]? = some p.1)) &&
    (scope.names.all fun y => match y.2 with
      | .free => (match sc.names.lookup y.1 with | some .cell => true | some .free => true | _ => false)
      | .local => decide (y.1 ∈ own.map (·.1)) || decide (y.1 ∉ N)
      | .cell => decide (y.1 ∈ own.map (·.1)) || decide (y.1 ∉ N)
      | _ => true)
theorem blkOk_by {N : List Str} {sc scope : Scope} {own : List (Str × Nat)} (h : blkC N sc scope own = true) : BlkOk N sc scope own := by
  unfold blkC at h
  simp only [Bool.and_eq_true, List.all_eq_true, decide_eq_true_eq] at h
  obtain ⟨⟨⟨h1, h2⟩, h3⟩, h4⟩ := h
  refine ⟨?_, h2, h3, fun y hy e => ?_, fun y hy e => ?_⟩
  · split at h1
    · assumption
    · cases h1
  · have q := h4 y hy
    simp only [e] at q
    split at q <;> first | exact .inl (by assumption) | exact .inr (by assumption) | cases q
  · have q := h4 y hy
    rcases e with e | e <;> (simp only [e, Bool.or_eq_true, decide_eq_true_eq] at q; exact q)
end L2

namespace L2
open PySem PySem.Spec PyProof.Rows

section
variable {prog : Program} {w : World} {A : Around} {R : Result → Shared → Prop} {s : Shared} {elt t0 i0 t1 i1 : Expr} {ifs0 ifs1 : List Expr} {scope : Scope} {pos : Pos} {it acc : Value} {env : Env}
end

section
variable {X : Cx}
end
end L2

namespace L2
open PySem PySem.Spec PyProof.Rows

/-! ### lists of pairs as tables -/
section
variable {κ : Type} [DecidableEq κ]
end


/-! ### a tracked dict, its keys ints and texts or tuples of these -/
section
variable {P : Program} {w : World} {H : Hp} {h : Heap} {a : Addr}
end

section
variable {X : Cx} {pins : List (Addr × Obj)} {σ : St} {H : Hp} {s : Shared} {a : Addr} {y v : V} {u r : Value} {o : Option V} {A : Around} {E : Value → Shared → Prop}

end

section
variable {X : Cx} {pins : List (Addr × Obj)} {σ : St} {H : Hp} {s : Shared} {a : Addr} {kvs : List (Key × V)} {k : Key} {u : Value} {A : Around} {E : Value → Shared → Prop}
end


/-! ### readings and rules -/
section
variable {X : Cx} {o i e value : Expr} {pos pos' tpos : Pos} {td ty tv : TE}
end


/-! ### displays -/
section
variable {X : Cx} {pos : Pos}
end

/-! ### methods -/
section
variable {X : Cx} {pins : List (Addr × Obj)} {σ : St} {H : Hp} {s : Shared} {a : Addr} {y d : V} {u r : Value} {o : Option V} {A : Around} {E : Value → Shared → Prop}
end

section
variable {X : Cx} {o e f : Expr} {apos cpos : Pos} {td ty tx : TE}
end

/-! ### dict(d): a copy -/
section
variable {X : Cx} {pins : List (Addr × Obj)} {σ : St} {H : Hp} {s : Shared} {a : Addr} {kvs : List (Key × V)} {A : Around} {E : Value → Shared → Prop}
end


section
variable {X : Cx} {pins : List (Addr × Obj)} {σ : St} {H : Hp} {s : Shared} {a : Addr} {y : V} {u : Value} {A : Around} {E : Value → Shared → Prop}
end
end L2

namespace L2
open PySem PySem.Spec PyProof.Rows

section
variable {prog : Program} {w : World} {A : Around} {E : Value → Shared → Prop}
end

section
variable {X : Cx}
end
end L2

namespace L2
open PySem PySem.Spec PyProof.Rows

section
variable {X : Cx} {pins : List (Addr × Obj)} {σ : St} {H : Hp} {s : Shared} {h' : Heap}
/-- .. and one new object is laid -/
theorem Inv.turnedNew {t' : Nat} {ch : List Addr} {T : Addr} {ob : HO} (I : Inv X pins σ H s) (k : ∀ b o, b ∉ ch → s.heap.get? b = some o → h'.get? b = some o) (hf : ∀ b ∈ ch, FpOk X pins H b) (hT : s.heap.objs.size ≤ T)
    (new : ObjOk X.prog X.w (upd H T ob) h' T ob) : Inv X pins σ (upd H T ob) { s with heap := h', toks := t' } := by
  have hn : H T = none := I.hok.fresh hT
  have nit : ∀ b u, H b = some u → b ∉ ch := fun b u e z => by
    have q := (hf b z).1
    rw [q] at e; cases e
  refine I.step (g' := s.gens) (d' := s.drawn) (ch := ch) (fun b hb => ⟨(hf b hb).2.2.2.1, (hf b hb).2.1, (hf b hb).2.2.2.2.1, (hf b hb).2.2.2.2.2⟩) (fun b o _ _ hc e _ => k b o hc e) (fun b o _ _ hc e _ => ⟨o.slots, k b o hc e⟩)
    (fun b o _ e n => ?_) (fun b o hc e => ⟨o, k b o hc e⟩) (fun b xs e => ?_) (fun b o u e => ?_) (fun b ps e => ⟨#[], ?_⟩) (fun m hm => ?_) (fun b u e => ?_) I.bare
  · rw [upd_ne (Nat.ne_of_lt (Nat.lt_of_lt_of_le (Heap.lt_size e) hT))]; exact n
  · rw [upd_ne (ne_of_none e hn)]; exact e
  · rw [upd_ne (ne_of_none e hn)]; exact e
  · rw [upd_ne (ne_of_none e hn), e]; simp
  · obtain ⟨o, es, ep, ho, r⟩ := hm
    exact ⟨o, es, ep, k _ o (fun z => (hf _ z).2.1 rfl) ho, r⟩
  · by_cases hb : b = T
    · subst hb
      rw [upd_same] at e
      cases e
      exact new
    · rw [upd_ne hb] at e
      refine (I.hok b u e).stay (fun c v hc q => k c v ?_ q) (fun c q => by rw [upd_ne (ne_of_none q hn)]; exact q) fun c xs q => by rw [upd_ne (ne_of_none q hn)]; exact q
      rcases hc with z | z
      · rw [z]; exact nit b u e
      · exact nit c _ z

/-! ### locking a thing while a statement runs -/
end
section
variable {X : Cx}
/-! ### one iterator just laid -/
theorem pi_one {tg : Expr} {pins : List (Addr × Obj)} {σ : St} {H : Hp} {s : Shared} {R : It → Hp → Prop} {J : It} {tn : Nat → Heap → Prop} {tk : Nat} (I : Inv X pins σ H s) (o : Obj)
    (T : Turn X.prog X.w X.K tg J [s.heap.objs.size] s.heap.objs.size tn) (st : tn 0 (s.heap.push o)) (q : R J H) : PIE X pins σ tg R (.ref s.heap.objs.size) { s with heap := s.heap.push o, toks := tk } := by
  refine ⟨s.heap.objs.size, [s.heap.objs.size], tn, J, H, rfl, I.kept fun b ob e => Heap.get?_push_of_some _ e, T, st, fun b hb => ?_, q⟩
  have e : b = s.heap.objs.size := by simpa using hb
  subst e
  exact I.fpOk (Nat.le_refl _) (I.hok.fresh (Nat.le_refl _))
end

/-! ### range with a step -/
/-- lo, lo + c, .. (n of them) -/
def Itc (lo c : Int) (n : Nat) : It := ⟨fun i _ => i < n, fun i H x H' => H' = H ∧ x = .int (lo + (i : Nat) * c), fun i _ => n ≤ i⟩
theorem turn_rangeC {P : Program} {w : World} {K : PySem.W.Frag} {tg : Expr} (it : Addr) (lo c : Int) (n : Nat) : Turn P w K tg (Itc lo c n) [it] it (fun i h => IsRangeIter h it (lo + (i : Nat) * c) ((n : Int) - (i : Nat)) c) where
  mem := by simp
  obj := fun i h st b hb => by
    have e : b = it := by simpa using hb
    subst e
    exact ⟨_, st, fun v z => nomatch z⟩
  keep := fun i h h' st k => k it (by simp) _ st
  item := by
    intro X hP hw hK hc i pins s σ H E I hf st hg
    subst hP hw hK
    obtain ⟨f0, f1, f2, f3, f4, f5⟩ := hf it (by simp)
    have W := Walks.range (prog := X.prog) (w := X.w) (I.ok.hd hc) it lo c n
    refine W.item i s _ _ hg st fun v h' tk hv st' kk => ?_
    obtain ⟨t, rfl⟩ := hv
    have I1 : Inv X pins σ H { s with heap := h', toks := tk } := I.turned (fun b o hb e => kk b o (by simpa using hb) e) f0 f1 f3 f4 f5
    exact ⟨_, rfl, go_of (s := { s with heap := h', toks := tk }) (n := "range_iterator") st' rfl rfl (by decide) ⟨.int (lo + (i : Nat) * c), H, I1, ⟨t, rfl⟩, ⟨rfl, rfl⟩, st', fun b hb => (hf b hb).1⟩⟩
  done := by
    intro X hP hw hK hc i pins s σ H E I hf st hg
    subst hP hw hK
    obtain ⟨f0, f1, f2, f3, f4, f5⟩ := hf it (by simp)
    exact wpAny_pyNext_range_end (I.ok.hd hc) st (by have : n ≤ i := hg; omega) fun h' eb => ⟨rfl, I.turned (t' := s.toks) (fun b o hb e => eb b o hb e) f0 f1 f3 f4 f5⟩
  self := fun A i s Q E st h => wpAny_pyIter_rangeiter st h
/-- range(i, j, c): small bounds, n items -/
def RgC (i j c : Int) (n : Nat) : Prop := c ≠ 0 ∧ c.natAbs < 1073741824 ∧ Builtin.Range.small i j c = true ∧ Builtin.Range.rangeSize i j c = n
def iRng3 (ta : TA) : TI := fun σ H R => ta σ H fun vs H1 => ∃ (i j c : Int) (n : Nat), vs = [.int i, .int j, .int c] ∧ RgC i j c n ∧ R (Itc i c n) H1
section
variable {X : Cx} {tg : Expr}
theorem pi_range3 {a b c : Expr} {ta : TA} {p pos : Pos} (hg : Gl X "range") (hm : X.mg "range" = none) (ha : PA X [a, b, c] ta)
    (hs : starEach [a, b, c] X.env = (false, eval a X.env) :: starEach [b, c] X.env := by rfl) (hpl : (backTo pos (starEach [b, c] X.env)).any (·.1) = false := by rfl) :
    PI X tg (.Call (.Name "range" p) [a, b, c] [] pos) (iRng3 ta) := by
  intro pins s σ H R I h
  refine Call_ (ld_blt I hg hm boot_range (PyProof.Rows.callWith_type1 (thn (ha pos pins s σ H _ I h) fun us s1 ⟨vs, H1, I1, r1, q1⟩ => ?_) hs hpl))
  obtain ⟨i, j, k, n, e, ⟨c0, c1, c2, c3⟩, q⟩ := q1
  subst e
  cases r1 with
  | cons r rr =>
    cases rr with
    | cons r' rr =>
      cases rr with
      | cons r'' rr =>
        cases rr
        obtain ⟨t, rfl⟩ := r
        obtain ⟨t', rfl⟩ := r'
        obtain ⟨t'', rfl⟩ := r''
        refine call_range_3 c0 ?_ (.inl (PyProof.noPylong_small c1))
        refine wpAny_pyIter_range (IsRange.new ..) c2 ?_
        have I2 : Inv X pins σ H1 { s1 with heap := s1.heap.push { cls := .type "range", data := .fields #[.int i t, .int j t', .int k t''] } } := I1.kept (t' := s1.toks) fun b o e => Heap.get?_push_of_some _ e
        refine pi_one (tk := s1.toks) I2 _ (turn_rangeC _ i k n) ?_ q
        have e1 : i + ((0 : Nat) : Int) * k = i := by simp
        have e2 : (n : Int) - ((0 : Nat) : Int) = Builtin.Range.rangeSize i j k := by rw [c3]; simp
        show IsRangeIter _ _ (i + ((0 : Nat) : Int) * k) ((n : Int) - ((0 : Nat) : Int)) k
        rw [e1, e2]
        exact Heap.get?_push_size _ rfl
end
/-- the turns of a step range, for the for loop -/
theorem for_rangeC {lo c : Int} {n : Nat} {g : TG} {tb : TS} {D : Ends} {σ : St} {H : Hp} (Pv : Nat → St → Hp → Prop) (h0 : Pv 0 σ H)
    (hs : ∀ i σ H, i < n → Pv i σ H → g (.int (lo + (i : Nat) * c)) σ H fun σ2 H2 => tb { D with nx := Pv (i + 1), ct := Pv (i + 1), bk := D.nx } σ2 H2) (hd : ∀ σ H, Pv n σ H → D.nx σ H) :
    ∃ W : Nat → Nat → St → Hp → Prop, (∃ m, W 0 m σ H) ∧ ∀ i m σ H, W i m σ H →
      ((Itc lo c n).stop i H ∧ D.nx σ H) ∨ ((Itc lo c n).go i H ∧ ∃ N : St → Hp → Prop, (∀ σ' H', N σ' H' → ∃ m', m' < m ∧ W (i + 1) m' σ' H') ∧ ∀ x H', (Itc lo c n).yld i H x H' → g x σ H' fun σ2 H2 => tb { D with nx := N, ct := N, bk := D.nx } σ2 H2) := by
  refine ⟨fun i m σ H => m = n - i ∧ i ≤ n ∧ Pv i σ H, ⟨n, by simp, Nat.zero_le _, h0⟩, ?_⟩
  rintro i m σ H ⟨rfl, hi, p⟩
  by_cases hlt : i < n
  · refine .inr ⟨hlt, Pv (i + 1), fun σ' H' p' => ⟨n - (i + 1), by omega, rfl, hlt, p'⟩, fun x H' y => ?_⟩
    obtain ⟨e, y⟩ := y
    subst e y
    exact hs i σ _ hlt p
  · have e : i = n := by omega
    subst e
    exact .inl ⟨Nat.le_refl _, hd σ H p⟩

/-! ### reversed(list) -/
section
variable {X : Cx} {tg : Expr}
end

/-! ### a str -/
/-! ### a dict's keys: any dict's entries -/
section
variable {prog : Program} {w : World} {A : Around} {E : Value → Shared → Prop} {s : Shared}
end

/-! ### a locked dict -/
section
variable {X : Cx} {pins : List (Addr × Obj)} {σ : St} {H : Hp} {s : Shared} {d : Addr} {o : Obj}
end

section
variable {P : Program} {w : World} {K : PySem.W.Frag} {tg : Expr} {d : Addr} {o : Obj} {es : Array DictEntry} {ep : Nat}
end

/-! ### for k in d, d.keys(), d.values(), d.items() -/
section
variable {X : Cx} {tg e : Expr} {td : TE} {apos cpos : Pos}
end

/-! ### enumerate(list) -/
/-- the list at a as it stands at each turn, each item in a new pair -/
def Ite (K : PySem.W.Frag) (a : Addr) : It :=
  ⟨fun i H => ∃ (xs : List V) (x : V), SqL K H a xs ∧ xs[i]? = some x, fun i H v H' => ∃ T x, v = .ref T ∧ H T = none ∧ H' = upd H T (.tup [.int (i : Nat), x]) ∧ ∀ xs, SqL K H a xs → xs[i]? = some x, fun i H => ∃ xs : List V, SqL K H a xs ∧ xs.length ≤ i⟩
theorem turn_enum {P : Program} {w : World} {K : PySem.W.Frag} {elts : List Expr} {kk : Nat} {tpos : Pos} (a e it : Addr) :
    Turn P w K (.Tuple elts kk tpos) (Ite K a) [e, it] e (fun i h => (∃ old, IsEnum h e it ((i : Nat) : Int) old) ∧ h.IsListIter it a i ∧ e ≠ it) where
  mem := by simp
  obj := fun i h st b hb => by
    obtain ⟨⟨old, he⟩, ⟨o, ho, hc, hd⟩, _⟩ := st
    have e' : b = e ∨ b = it := by simpa using hb
    rcases e' with z | z
    · rw [z]; exact ⟨_, he, fun v q => nomatch q⟩
    · rw [z]; exact ⟨o, ho, fun v q => by rw [hd] at q; cases q⟩
  keep := fun i h h' st k => let ⟨⟨old, he⟩, hi, hne⟩ := st; ⟨⟨old, k e (by simp) _ he⟩, hi.at fun o q => k it (by simp) o q, hne⟩
  item := by
    intro X hP hw hK hc i pins s σ H E I hf st hg
    subst hP hw hK
    obtain ⟨⟨old, he⟩, hit, hne⟩ := st
    obtain ⟨xs, x, hq, hx⟩ := hg
    obtain ⟨its, rv, p, hz⟩ := I.list hq
    obtain ⟨u, hu, ru⟩ := rv.get hx
    have hel : e < s.heap.objs.size := Heap.lt_size he
    have hil : it < s.heap.objs.size := by obtain ⟨_, q, _⟩ := hit; exact Heap.lt_size q
    refine wpAny_pyNext_enum_item he hit p.isList (x := u) (by simpa using hu) hne fun h' ho hit' hT hsz hk => ?_
    refine ⟨_, rfl, wpAny_letOwnedTupleGo_enum (s := { s with heap := h', toks := s.toks + 1 }) ho fun h'' he' sb => ?_⟩
    have hT2 : h''.get? s.heap.objs.size = some { cls := .type "tuple", data := .seq #[.int i s.toks, u] } := (sb.2 _ (Nat.ne_of_gt hel)).trans hT
    have new : ObjOk X.prog X.w (upd H s.heap.objs.size (.tup [.int (i : Nat), x])) h'' s.heap.objs.size (.tup [.int (i : Nat), x]) :=
      ⟨by show 2 ≤ sizeLine; decide, [.int i s.toks, u], .cons ⟨_, rfl⟩ (.cons ru .nil), ⟨_, hT2, rfl, _, rfl⟩⟩
    have I1 : Inv X pins σ (upd H s.heap.objs.size (.tup [.int (i : Nat), x])) { s with heap := h'', toks := s.toks + 1 } :=
      I.turnedNew (ch := [e, it]) (fun b ob hb q => (sb.2 b (fun z => hb (by simp [z]))).trans (hk b ob (fun z => hb (by simp [z])) (fun z => hb (by simp [z])) q)) hf (Nat.le_refl _) new
    refine ⟨.ref s.heap.objs.size, _, I1, rfl, ⟨_, x, rfl, I.hok.fresh (Nat.le_refl _), rfl, fun ys hy => by rw [I.list_inj hy hq]; exact hx⟩, ⟨⟨u, ?_⟩, hit'.at fun o q => (sb.2 it (Ne.symm hne)).trans q, hne⟩, fun b hb => ?_⟩
    · have e1 : ((i + 1 : Nat) : Int) = (i : Int) + 1 := by omega
      rw [e1]; exact he'
    · have hb' : b < s.heap.objs.size := by
        have e' : b = e ∨ b = it := by simpa using hb
        rcases e' with z | z
        · rw [z]; exact hel
        · rw [z]; exact hil
      rw [upd_ne (Nat.ne_of_lt hb')]
      exact (hf b hb).1
  done := by
    intro X hP hw hK hc i pins s σ H E I hf st hg
    subst hP hw hK
    obtain ⟨⟨old, he⟩, hit, hne⟩ := st
    obtain ⟨xs, hq, hx⟩ := hg
    obtain ⟨its, rv, p, hz⟩ := I.list hq
    obtain ⟨f0, f1, f2, f3, f4, f5⟩ := hf it (by simp)
    have hl := rv.length
    exact wpAny_pyNext_enum_end (I.ok.hd hc) he hit p.isList (by simp; omega) fun h' eb => ⟨rfl, I.turned (t' := s.toks) (fun b o hb q => eb b o hb q) f0 f1 f3 f4 f5⟩
  self := fun A i s Q E st h => let ⟨⟨_, he⟩, _⟩ := st; wpAny_pyIter_enum he h
def iEnum (K : PySem.W.Frag) (ta : TA) : TI := fun σ H R => ta σ H fun vs H1 => ∃ a xs, vs = [.ref a] ∧ SqL K H1 a xs ∧ R (Ite K a) H1
theorem pi_enum {X : Cx} {e : Expr} {ta : TA} {p pos tpos : Pos} {elts : List Expr} {kk : Nat} (hg : Gl X "enumerate") (hm : X.mg "enumerate" = none) (ha : PA X [e] ta) (hs : starEach [e] X.env = [(false, eval e X.env)] := by rfl) :
    PI X (.Tuple elts kk tpos) (.Call (.Name "enumerate" p) [e] [] pos) (iEnum X.K ta) := by
  intro pins s σ H R I h
  refine Call_ (ld_blt I hg hm boot_enumerate (PyProof.Rows.callWith_type1 (thn (ha pos pins s σ H _ I h) fun us s1 ⟨vs, H1, I1, r1, q1⟩ => ?_) hs rfl))
  obtain ⟨a, xs, ex, hq, q⟩ := q1
  subst ex
  cases r1 with
  | cons r rr =>
    cases rr
    cases r
    obtain ⟨its, rv, p', hz⟩ := I1.list hq
    refine call_enumerate_list p'.isList fun h' he hit hsz hk => wpAny_pyIter_enum he ?_
    have I2 : Inv X pins σ H1 { s1 with heap := h' } := I1.kept (t' := s1.toks) hk
    refine ⟨s1.heap.objs.size + 1, [s1.heap.objs.size + 1, s1.heap.objs.size], _, _, H1, rfl, I2, turn_enum a (s1.heap.objs.size + 1) s1.heap.objs.size, ⟨⟨.none, he⟩, hit, Nat.succ_ne_self _⟩, fun b hb => ?_, q⟩
    have e' : b = s1.heap.objs.size + 1 ∨ b = s1.heap.objs.size := by simpa using hb
    have hle : s1.heap.objs.size ≤ b := by
      rcases e' with z | z
      · rw [z]; exact Nat.le_add_right _ _
      · rw [z]; exact Nat.le_refl _
    exact I1.fpOk hle (I1.hok.fresh hle)
/-! ### zip(list, list) -/
end L2

section 
namespace Bits
open PySem PyProof.Rows

end Bits
end 

section 
namespace TL
open PySem PySem.Builtin PySem.Builtin.Str PySem.StrLaws

/-! ### the list functions -/
/-! ### the model's split and partition are these -/
/-! ### computing spl and par -/
/-! ### digits -/
/-! ### words: x.split() -/
end TL
end 

namespace L2
open PySem PySem.Spec PyProof.Rows

section
variable {X : Cx} {pins : List (Addr × Obj)} {σ : St} {H : Hp} {s : Shared} {Q : VK}
end

section
variable {X : Cx}

/-! ### of a text alone -/
/-! ### of a text and a text -/
end

section
variable {X : Cx} {o e : Expr} {to te : TE}
end
end L2

namespace L2
open PySem PySem.Spec PyProof.Rows

section
variable {X : Cx}
end

/-! ### slices of a text -/
end L2

namespace Att
open PySem PySem.W PySem.Calls PyProof.Rows

/-! ### the script -/
/-! ### the attachment: holds_open's last premise (the goal 'hc' behind k_head) from a wpAny of the law's body -/
/-! ### rules over ANY heap (no ledger) from facts about the written part K: the library's own take a ledger (News) for what they write -/
section
variable {prog : Program} {w : World} {A : Around} {E : Value → Shared → Prop} {s : Shared} {K : Frag}

/-! the whole heap as the ledger: makes every rule that writes through a ledger a rule over any heap -/
end
end Att

namespace L2
open PySem PySem.Spec PyProof.Rows

end L2

namespace L2
open PySem PySem.Spec PyProof.Rows

abbrev KOf {K : PySem.W.Frag} {h : Heap} (_ : K.In h) : PySem.W.Frag := K

end L2



/-! SHORT WORDS over the layer: a def of the text, its body, what a loop and a test want. -/
namespace L2
open PySem PySem.Spec PyProof.Rows

/-! ### the text by places -/
/-- the j-th statement of a class's body -/
def inClass (s : Stmt) (j : Nat) : Stmt := match s with
  | .ClassDef _ _ _ body _ _ _ _ _ _ _ => body.getD j (.Pass ⟨0, 0, 0, 0⟩)
  | _ => .Pass ⟨0, 0, 0, 0⟩
def defArgs (s : Stmt) : Arguments := match s with
  | .FunctionDef _ a _ _ _ _ _ _ _ _ => a
  | _ => { posonlyargs := [], args := [], vararg := none, kwonlyargs := [], kw_defaults := [], kwarg := none, defaults := [] }
def defBody (s : Stmt) : List Stmt := match s with
  | .FunctionDef _ _ b _ _ _ _ _ _ _ => b
  | _ => []
def defScope (s : Stmt) : Scope := match s with
  | .FunctionDef _ _ _ _ _ _ sc _ _ _ => sc
  | _ => { kind := .function, names := [], isGenerator := false, isCoroutine := false }

/-! ### no exception leaves a def -/
abbrev CX0 : CXT := fun _ _ _ _ _ _ => False
abbrev E0 : XK := fun _ _ _ => False
theorem pass0 {X : Cx} : Passes CX0 X E0 := fun _ _ _ _ _ _ _ h => h.elim

/-! ### a def (or method) of the text as it stands behind the top -/
structure Fun (K : PySem.W.Frag) (x qual : Str) (st : Stmt) (f : Addr) (fd : FuncData) : Prop where
  ex : ∃ (oc : Value) (od : Option Addr) (kV doc pm : Value) (an : Option Addr) (cdv ct : Value) (osl : Array (Option Value)),
    fd = PySem.W.fnOf x qual (defArgs st) (defBody st) (defScope st) .none kV doc pm an cdv ct ∧ K.lookup f = some ⟨oc, od, .func fd, osl⟩ ∧ PySem.W.codeIn K cdv qual = true
  kp : PySem.W.keepIn K (.ref f) = true
section
variable {P : Program} {w : World} {K : PySem.W.Frag} {mg : Str → Option Value} {base : Heap}
/-- THE RULE for a def: its body as a term of rules, and the reading of that term -/
theorem Fun.ok {x qual : Str} {st : Stmt} {f : Addr} {fd : FuncData} {N ps : List Str} {k : Nat} {sp : Sp} (F : Fun K x qual st f fd) (S : FnScope N ps (defScope st)) (len : ∀ vs H Q E, sp vs H Q E → vs.length = ps.length)
    (hbody : ∀ (cdv : Value) (A : Around) (outer : List Env) (s : Shared) (H : Hp) (vs : List V) (Q : VK) (E : XK), Room k (A.deeper (envOfC qual (defScope st) s.heap.objs.size f cdv)) → sp vs H Q E →
      ∃ t, PSs (cxOf CX0 P w K mg base N qual (defScope st) f cdv A outer s H E).nox (defBody st) t ∧ t { nx := fun _ H' => Q .non H', rt := Q } (start N vs) H) : FnOk P w K mg base CX0 (k + 1) f fd ps sp := by
  obtain ⟨oc, od, kV, doc, pm, an, cdv, ct, osl, rfl, lk, hcd⟩ := F.ex
  refine fn_of lk hcd S len fun A outer s H vs Q E hr hsp => ?_
  obtain ⟨t, h, q⟩ := hbody cdv A outer s H vs Q E hr hsp
  exact ⟨t, h.nox, q⟩
/-- how its arguments bind (no defaults): h is «fun _ _ _ _ _ _ us hl => match us, hl with | [_, _], _ => rfl», one _ a parameter -/
theorem Fun.binds {x qual : Str} {st : Stmt} {f : Addr} {fd : FuncData} {ps : List Str} (F : Fun K x qual st f fd)
    (h : ∀ (kV doc pm : Value) (an : Option Addr) (cdv ct : Value) (us : List Value), us.length = ps.length → bindArgs (PySem.W.fnOf x qual (defArgs st) (defBody st) (defScope st) .none kV doc pm an cdv ct) ⟨us, []⟩ = pure (ps.zip us)) : Binds K fd ps [] := by
  obtain ⟨oc, od, kV, doc, pm, an, cdv, ct, osl, rfl, lk, hcd⟩ := F.ex
  exact .all (h kV doc pm an cdv ct)
theorem fun_mk {x qual : Str} {st : Stmt} {f : Addr} {oc : Value} {od an : Option Addr} {osl : Array (Option Value)} {kV doc pm cdv ct : Value} (l : K.lookup f = some ⟨oc, od, .func (PySem.W.fnOf x qual (defArgs st) (defBody st) (defScope st) .none kV doc pm an cdv ct), osl⟩)
    (c : PySem.W.codeIn K cdv qual = true) (k : PySem.W.keepIn K (.ref f) = true) : Fun K x qual st f (PySem.W.fnOf x qual (defArgs st) (defBody st) (defScope st) .none kV doc pm an cdv ct) := ⟨⟨oc, od, kV, doc, pm, an, cdv, ct, osl, rfl, l, c⟩, k⟩
end
/-! ### expressions in short: the name that stands in the i-th slot -/
section
variable {X : Cx}
theorem pv (i : Nat) {x : Str} {pos : Pos} (hN : X.N[i]? = some x := by rfl) (hv : Vis X.env.scope x := by first | exact Or.inl rfl | exact Or.inr (Or.inl rfl) | exact Or.inr (Or.inr rfl)) (hd : (x == ("__debug__" : Str)) = false := by decide)
    (hcd : (x == ("__classdict__" : Str)) = false := by decide) : PE X (.Name x pos) (tVar i) := pe_var hN hv hd hcd
end

/-! ### tests -/
theorem iteF {A B : Prop} (h : B) : if false = true then A else B := by
  rw [if_neg Bool.false_ne_true]
  exact h
theorem iteT {A B : Prop} (h : A) : if true = true then A else B := by
  rw [if_pos rfl]
  exact h
theorem ite2 {c A B : Prop} [Decidable c] (h1 : c → A) (h2 : ¬ c → B) : if c then A else B := by
  by_cases h : c
  · rw [if_pos h]
    exact h1 h
  · rw [if_neg h]
    exact h2 h
/-! ### heaps -/
/-- all that was tracked is as it was -/
def Same (H H' : Hp) : Prop := ∀ b o, H b = some o → H' b = some o
theorem Same.refl (H : Hp) : Same H H := fun _ _ h => h
theorem Same.trans {H H1 H2 : Hp} (a : Same H H1) (b : Same H1 H2) : Same H H2 := fun c o h => b c o (a c o h)
theorem Same.seq {K : PySem.W.Frag} {H H' : Hp} {a : Addr} {xs : List V} (e : Same H H') (h : SqL K H a xs) : SqL K H' a xs := by
  rcases h with (h | ⟨o, h⟩) | h
  · exact .inl (.inl (e _ _ h))
  · exact .inl (.inr ⟨o, e _ _ h⟩)
  · exact .inr h

/-! ### a dict's pairs: keys that differ -/
section
variable {κ : Type} [DecidableEq κ]
end
/-! ### lists -/
theorem at_of {xs : List V} {z : Int} {j : Nat} {v : V} (e : z = (j : Int)) (h : xs[j]? = some v) : atI xs z = some v := by
  rw [e]
  exact atI_nat h
end L2

section
set_option Elab.async false
set_option linter.all false
set_option maxRecDepth 100000
set_option maxHeartbeats 2000000
namespace L2
open PySem PySem.Spec PyProof.Rows
open PySem.W (WData Codec OpenSpec Well WellAll ReadsW ReadsAllW)
/-! ### an answer as data -/
mutual
/-- x stands for the datum d, lists and tuples all the way -/
inductive Dw (K : PySem.W.Frag) (H : Hp) : V → WData → Prop
  | non : Dw K H .non .none
  | bl (b : Bool) : Dw K H (.bl b) (.bool b)
  | int (i : Int) : Dw K H (.int i) (.int i)
  | str (x : Str) : Dw K H (.str x) (.str x)
  | byt (b : Array UInt8) : Dw K H (.byt b) (.bytes b.toList)
  | lst {a : Addr} {xs : List V} {ds : List WData} : SqL K H a xs → DwAll K H xs ds → Dw K H (.ref a) (.list ds)
  | tup {a : Addr} {xs : List V} {ds : List WData} : SqT K H a xs → DwAll K H xs ds → Dw K H (.ref a) (.tuple ds)
inductive DwAll (K : PySem.W.Frag) (H : Hp) : List V → List WData → Prop
  | nil : DwAll K H [] []
  | cons {v : V} {vs : List V} {d : WData} {ds : List WData} : Dw K H v d → DwAll K H vs ds → DwAll K H (v :: vs) (d :: ds)
end
theorem ints_dw {K : PySem.W.Frag} {H : Hp} : ∀ (ns : List Int) (xs : List V), DwAll K H xs (ns.map WData.int) → xs = ns.map V.int
  | [], xs, h => by
    cases h
    rfl
  | n :: r, xs, h => by
    cases h with
    | cons h1 h2 =>
      cases h1
      rw [ints_dw r _ h2] <;> rfl
section
variable {P : Program} {w : World} {K : PySem.W.Frag} {H : Hp} {h : Heap} {R : PySem.W.WRecords} {cl : Str → Option Addr}
theorem sqL_at {a : Addr} {xs : List V} (hok : HOk P w H h) (KX : K.In h) (q : SqL K H a xs) : ∃ (its : List Value) (o : Obj) (n : Nat), Vals xs its ∧ h.get? a = some o ∧ o.cls = .type "list" ∧ o.data = .seq its.toArray n := by
  rcases q with q | ⟨o, its, n, e, hc, _, hd, _, hv⟩
  · obtain ⟨_, its, n, hv, e⟩ := (show ObjOk P w H h a (.lst xs) from q.ok hok)
    exact ⟨its, _, n, hv, e, rfl, rfl⟩
  · exact ⟨its.toList, o, n, hv, KX _ _ e, hc, by simp [hd]⟩
theorem sqT_at {a : Addr} {xs : List V} (hok : HOk P w H h) (KX : K.In h) (q : SqT K H a xs) : ∃ (its : List Value) (o : Obj) (n : Nat), Vals xs its ∧ h.get? a = some o ∧ o.cls = .type "tuple" ∧ o.data = .seq its.toArray n := by
  rcases q with q | ⟨o, its, n, e, hc, hd, _, hv⟩
  · obtain ⟨_, its, hv, o, e, hc, n, hd⟩ := (show ObjOk P w H h a (.tup xs) from q.ok hok)
    exact ⟨its, o, n, hv, e, hc, hd⟩
  · exact ⟨its.toList, o, n, hv, KX _ _ e, hc, by simp [hd]⟩
mutual
theorem Dw.reads (hok : HOk P w H h) (KX : K.In h) : ∀ (d : WData) (v : V) (u : Value), Dw K H v d → RelV v u → ∃ as, ReadsW R cl h u d as
  | .none, _, _, x, r => by
    cases x
    cases r
    exact ⟨_, ReadsW.none⟩
  | .bool b, _, _, x, r => by
    cases x
    cases r
    exact ⟨_, ReadsW.bool b⟩
  | .int i, _, _, x, r => by
    cases x
    obtain ⟨t, rfl⟩ := r
    exact ⟨_, ReadsW.int i t⟩
  | .str s, _, _, x, r => by
    cases x
    obtain ⟨t, rfl⟩ := r
    exact ⟨_, ReadsW.str s t⟩
  | .bytes b, _, _, x, r => by
    cases x
    obtain ⟨t, rfl⟩ := r
    exact ⟨_, ReadsW.bytes _ t⟩
  | .list ds, _, _, x, r => by
    cases x with
    | lst hs ha =>
      cases r
      obtain ⟨its, o, n, rv, ho, hc, hd⟩ := sqL_at hok KX hs
      obtain ⟨as, hr⟩ := Dw.readsAll hok KX ds _ its ha rv
      exact ⟨_, ReadsW.list ho hc hd hr⟩
  | .tuple ds, _, _, x, r => by
    cases x with
    | tup hs ha =>
      cases r
      obtain ⟨its, o, n, rv, ho, hc, hd⟩ := sqT_at hok KX hs
      obtain ⟨as, hr⟩ := Dw.readsAll hok KX ds _ its ha rv
      exact ⟨_, ReadsW.tuple ho hc hd hr⟩
  | .float _, _, _, x, _ => by cases x
  | .dict _, _, _, x, _ => by cases x
  | .bytearray _, _, _, x, _ => by cases x
  | .set _, _, _, x, _ => by cases x
  | .frozenset _, _, _, x, _ => by cases x
  | .obj _ _, _, _, x, _ => by cases x
theorem Dw.readsAll (hok : HOk P w H h) (KX : K.In h) : ∀ (ds : List WData) (vs : List V) (us : List Value), DwAll K H vs ds → Vals vs us → ∃ as, ReadsAllW R cl h us ds as
  | [], _, _, x, r => by
    cases x
    cases r
    exact ⟨_, ReadsAllW.nil⟩
  | d :: ds, _, _, x, r => by
    cases x with
    | cons h1 h2 =>
      cases r with
      | cons r1 r2 =>
        obtain ⟨as, q1⟩ := Dw.reads hok KX d _ _ h1 r1
        obtain ⟨bs, q2⟩ := Dw.readsAll hok KX ds _ _ h2 r2
        exact ⟨_, ReadsAllW.cons q1 q2⟩
end
end
/-! ### the arguments -/
mutual
/-- data that a codec tells -/
def plW : WData → Bool
  | .none => true
  | .bool _ => true
  | .int _ => true
  | .str _ => true
  | .bytes _ => true
  | .list xs => plWs xs
  | .tuple xs => plWs xs
  | _ => false
def plWs : List WData → Bool
  | [] => true
  | x :: r => plW x && plWs r
end
theorem plWs_map {α : Type} {f : α → WData} (h : ∀ a, plW (f a) = true) : ∀ l : List α, plWs (l.map f) = true
  | [] => rfl
  | x :: r => by
    show (plW (f x) && plWs (r.map f)) = true
    rw [h x, plWs_map h r] <;> rfl
theorem pl_enc : ∀ (c : Codec) (a : c.denote), plW (c.enc a) = true
  | .unit, _ => rfl
  | .bool, _ => rfl
  | .int _ _, _ => rfl
  | .nat _ _, _ => rfl
  | .u8, _ => rfl
  | .bytes _ _, _ => rfl
  | .text _ _ _ _, _ => rfl
  | .list _ _ c, a => plWs_map (fun x => pl_enc c x) a
  | .pair c d, a => by
    show (plW (c.enc a.1) && (plW (d.enc a.2) && true)) = true
    rw [pl_enc c a.1, pl_enc d a.2] <;> rfl
  | .triple c d e, a => by
    show (plW (c.enc a.1) && (plW (d.enc a.2.1) && (plW (e.enc a.2.2) && true))) = true
    rw [pl_enc c a.1, pl_enc d a.2.1, pl_enc e a.2.2] <;> rfl
  | .option c, none => rfl
  | .option c, some x => pl_enc c x
theorem pl_encAll : ∀ (cs : List Codec) (a : Codec.denoteAll cs), plWs (Codec.encAll cs a) = true
  | [], _ => rfl
  | c :: cs, a => by
    show (plW (c.enc a.1) && plWs (Codec.encAll cs a.2)) = true
    rw [pl_enc c a.1, pl_encAll cs a.2] <;> rfl
theorem weight_mem : ∀ {xs : List WData} {d : WData}, d ∈ xs → d.weight ≤ WData.weightAll xs
  | [], d, h => absurd h (by simp)
  | x :: r, d, h => by
    show d.weight ≤ x.weight + 1 + WData.weightAll r
    rcases List.mem_cons.mp h with e | m
    · rw [e]
      omega
    · have z := weight_mem m
      omega
def toV : Value → V
  | .none => .non
  | .bool b => .bl b
  | .int i _ => .int i
  | .str x _ => .str x
  | .bytes b _ => .byt b
  | .ref a => .ref a
  | _ => .non
/-- a value of the arguments, its objects among A -/
def OkU (A : List Addr) : Value → Prop
  | .none => True
  | .bool _ => True
  | .int _ _ => True
  | .str _ _ => True
  | .bytes _ _ => True
  | .ref a => a ∈ A
  | _ => False
theorem OkU.mono {A B : List Addr} (h : ∀ a ∈ A, a ∈ B) : ∀ {u : Value}, OkU A u → OkU B u := fun {u} x => by
  cases u with
  | ref a => exact h a x
  | none => trivial
  | bool b => trivial
  | int i t => trivial
  | str s t => trivial
  | bytes b t => trivial
  | _ => exact False.elim x
theorem relV_toV {A : List Addr} {u : Value} (x : OkU A u) : RelV (toV u) u := by
  cases u with
  | ref a => rfl
  | none => rfl
  | bool b => rfl
  | int i t => exact ⟨t, rfl⟩
  | str s t => exact ⟨t, rfl⟩
  | bytes b t => exact ⟨t, rfl⟩
  | _ => exact False.elim x
theorem vals_toV {A : List Addr} : ∀ {vs : List Value}, (∀ u ∈ vs, OkU A u) → Vals (vs.map toV) vs
  | [], _ => .nil
  | u :: r, h => .cons (relV_toV (h u (List.mem_cons_self ..))) (vals_toV fun x hx => h x (List.mem_cons_of_mem _ hx))
/-- an object of the arguments -/
def ArgOb (h : Heap) (A : List Addr) (a : Addr) : Prop := ∃ vs : List Value, vs.length ≤ sizeLine ∧ (∀ u ∈ vs, OkU A u) ∧
  (h.get? a = some { cls := .type "list", data := .seq vs.toArray } ∨ h.get? a = some { cls := .type "tuple", data := .seq vs.toArray })
theorem ArgOb.mono {h : Heap} {A B : List Addr} {a : Addr} (k : ∀ a ∈ A, a ∈ B) (x : ArgOb h A a) : ArgOb h B a := by
  obtain ⟨vs, h1, h2, h3⟩ := x
  exact ⟨vs, h1, fun u hu => (h2 u hu).mono k, h3⟩
theorem wellAll_len {P : Params} {h : Heap} : ∀ {vs : List Value} {ds : List WData}, WellAll P h vs ds → vs.length = ds.length
  | _, _, .nil => rfl
  | _, _, .cons _ b => by
    show _ + 1 = _ + 1
    rw [wellAll_len b]
theorem well_list {P : Params} {h : Heap} {v : Value} {ds : List WData} (x : Well P h v (.list ds)) : ∃ (a : Addr) (vs : List Value), v = .ref a ∧ h.get? a = some { cls := .type "list", data := .seq vs.toArray } ∧ WellAll P h vs ds := by
  cases x with
  | list ho hall => exact ⟨_, _, rfl, ho, hall⟩
theorem well_tuple {P : Params} {h : Heap} {v : Value} {ds : List WData} (x : Well P h v (.tuple ds)) : ∃ (a : Addr) (vs : List Value), v = .ref a ∧ h.get? a = some { cls := .type "tuple", data := .seq vs.toArray } ∧ WellAll P h vs ds := by
  cases x with
  | tuple ho hall => exact ⟨_, _, rfl, ho, hall⟩
theorem well_cons {P : Params} {h : Heap} {us : List Value} {d : WData} {ds : List WData} (x : WellAll P h us (d :: ds)) : ∃ (v : Value) (vs : List Value), us = v :: vs ∧ Well P h v d ∧ WellAll P h vs ds := by
  cases x with
  | cons a b => exact ⟨_, _, rfl, a, b⟩
theorem line_of {n : Nat} (h : n ≤ 1048576) : n ≤ sizeLine := Nat.le_trans h (by decide)
section
variable {P : Params} {h : Heap}
mutual
theorem area_one : ∀ (d : WData) (v : Value), Well P h v d → plW d = true → d.weight ≤ 1048576 → ∃ A : List Addr, OkU A v ∧ ∀ a ∈ A, ArgOb h A a
  | .none, _, x, _, _ => by
    cases x
    exact ⟨[], trivial, fun a m => absurd m (by simp)⟩
  | .bool b, _, x, _, _ => by
    cases x
    exact ⟨[], trivial, fun a m => absurd m (by simp)⟩
  | .int i, _, x, _, _ => by
    cases x
    exact ⟨[], trivial, fun a m => absurd m (by simp)⟩
  | .str s, _, x, _, _ => by
    cases x
    exact ⟨[], trivial, fun a m => absurd m (by simp)⟩
  | .bytes b, _, x, _, _ => by
    cases x
    exact ⟨[], trivial, fun a m => absurd m (by simp)⟩
  | .list ds, _, x, p, z => by
    obtain ⟨a, vs, rfl, ho, hall⟩ := well_list x
    have z2 : WData.weightAll ds ≤ 1048576 := z
    obtain ⟨A, h1, h2⟩ := area_all ds _ hall p fun d hd => Nat.le_trans (weight_mem hd) z2
    have k : ∀ b ∈ A, b ∈ a :: A := fun b hb => List.mem_cons_of_mem _ hb
    refine ⟨a :: A, List.mem_cons_self .., fun b hb => ?_⟩
    rcases List.mem_cons.mp hb with e | m
    · rw [e]
      exact ⟨vs, line_of (by rw [wellAll_len hall]; exact Nat.le_trans (PySem.W.length_le_weightAllW ds) z2), fun u hu => (h1 u hu).mono k, .inl ho⟩
    · exact (h2 b m).mono k
  | .tuple ds, _, x, p, z => by
    obtain ⟨a, vs, rfl, ho, hall⟩ := well_tuple x
    have z2 : WData.weightAll ds ≤ 1048576 := z
    obtain ⟨A, h1, h2⟩ := area_all ds _ hall p fun d hd => Nat.le_trans (weight_mem hd) z2
    have k : ∀ b ∈ A, b ∈ a :: A := fun b hb => List.mem_cons_of_mem _ hb
    refine ⟨a :: A, List.mem_cons_self .., fun b hb => ?_⟩
    rcases List.mem_cons.mp hb with e | m
    · rw [e]
      exact ⟨vs, line_of (by rw [wellAll_len hall]; exact Nat.le_trans (PySem.W.length_le_weightAllW ds) z2), fun u hu => (h1 u hu).mono k, .inr ho⟩
    · exact (h2 b m).mono k
  | .float _, _, _, p, _ => Bool.noConfusion (show false = true from p)
  | .dict _, _, _, p, _ => Bool.noConfusion (show false = true from p)
  | .bytearray _, _, _, p, _ => Bool.noConfusion (show false = true from p)
  | .set _, _, _, p, _ => Bool.noConfusion (show false = true from p)
  | .frozenset _, _, _, p, _ => Bool.noConfusion (show false = true from p)
  | .obj _ _, _, _, p, _ => Bool.noConfusion (show false = true from p)
theorem area_all : ∀ (ds : List WData) (vs : List Value), WellAll P h vs ds → plWs ds = true → (∀ d ∈ ds, d.weight ≤ 1048576) → ∃ A : List Addr, (∀ u ∈ vs, OkU A u) ∧ ∀ a ∈ A, ArgOb h A a
  | [], _, x, _, _ => by
    cases x
    exact ⟨[], fun u m => absurd m (by simp), fun a m => absurd m (by simp)⟩
  | d :: ds, _, x, p, z => by
    obtain ⟨v, vs, rfl, x1, x2⟩ := well_cons x
    have q : plW d = true ∧ plWs ds = true := Bool.and_eq_true_iff.mp p
    obtain ⟨A, a1, a2⟩ := area_one d v x1 q.1 (z d (List.mem_cons_self ..))
    obtain ⟨B, b1, b2⟩ := area_all ds vs x2 q.2 fun e he => z e (List.mem_cons_of_mem _ he)
    have kA : ∀ b ∈ A, b ∈ A ++ B := fun b hb => List.mem_append.mpr (.inl hb)
    have kB : ∀ b ∈ B, b ∈ A ++ B := fun b hb => List.mem_append.mpr (.inr hb)
    refine ⟨A ++ B, fun u hu => ?_, fun b hb => ?_⟩
    · rcases List.mem_cons.mp hu with e | m
      · rw [e]
        exact a1.mono kA
      · exact (b1 u m).mono kB
    · rcases List.mem_append.mp hb with m | m
      · exact (a2 b m).mono kA
      · exact (b2 b m).mono kB
end
end
/-- what is tracked of an argument's object -/
def hoOf (o : Obj) : Option HO := match o.data with
  | .seq vs _ => if (o.cls == Value.type "list") = true then some (.frz o (.lst (vs.toList.map toV))) else some (.frz o (.tup (vs.toList.map toV)))
  | _ => none
def argH (K : PySem.W.Frag) (h : Heap) (A : List Addr) : Hp := fun b => if b ∈ A then (if (K.lookup b).isNone = true then (h.get? b).bind hoOf else none) else none
/-- nothing is tracked but what is known to the object -/
def OnlyF (H : Hp) : Prop := ∀ b, H b = none ∨ ∃ o u, H b = some (.frz o u)
theorem hoOf_lst (vs : List Value) : hoOf { cls := .type "list", data := .seq vs.toArray } = some (.frz { cls := .type "list", data := .seq vs.toArray } (.lst (vs.map toV))) := by
  show (if (Value.type "list" == Value.type "list") = true then some (HO.frz { cls := .type "list", data := .seq vs.toArray } (.lst (vs.toArray.toList.map toV))) else some (HO.frz { cls := .type "list", data := .seq vs.toArray } (.tup (vs.toArray.toList.map toV)))) = _
  rw [if_pos (beq_self_eq_true _)]
theorem hoOf_tup (vs : List Value) : hoOf { cls := .type "tuple", data := .seq vs.toArray } = some (.frz { cls := .type "tuple", data := .seq vs.toArray } (.tup (vs.map toV))) := by
  show (if (Value.type "tuple" == Value.type "list") = true then some (HO.frz { cls := .type "tuple", data := .seq vs.toArray } (.lst (vs.toArray.toList.map toV))) else some (HO.frz { cls := .type "tuple", data := .seq vs.toArray } (.tup (vs.toArray.toList.map toV)))) = _
  rw [if_neg (by decide)]
section
variable {P : Program} {w : World} {K : PySem.W.Frag} {h : Heap} {A : List Addr}
theorem argH_at {b : Addr} {o : Obj} (hb : b ∈ A) (hk : K.lookup b = none) (e : h.get? b = some o) : argH K h A b = hoOf o := by
  unfold argH
  rw [if_pos hb, hk, if_pos (show (none : Option Obj).isNone = true from rfl), e] <;> rfl
theorem of_argH {b : Addr} {u : HO} (q : argH K h A b = some u) : b ∈ A ∧ K.lookup b = none := by
  unfold argH at q
  by_cases hb : b ∈ A
  · rw [if_pos hb] at q
    cases hk : K.lookup b with
    | none => exact ⟨hb, rfl⟩
    | some o =>
      rw [hk, if_neg (by simp)] at q
      cases q
  · rw [if_neg hb] at q
    cases q
/-- what stands tracked -/
theorem argH_is (ar : ∀ a ∈ A, ArgOb h A a) {b : Addr} {u : HO} (q : argH K h A b = some u) : K.lookup b = none ∧ ∃ vs : List Value, vs.length ≤ sizeLine ∧ (∀ u ∈ vs, OkU A u) ∧
    ((h.get? b = some { cls := .type "list", data := .seq vs.toArray } ∧ u = .frz { cls := .type "list", data := .seq vs.toArray } (.lst (vs.map toV))) ∨
     (h.get? b = some { cls := .type "tuple", data := .seq vs.toArray } ∧ u = .frz { cls := .type "tuple", data := .seq vs.toArray } (.tup (vs.map toV)))) := by
  obtain ⟨hb, hk⟩ := of_argH q
  obtain ⟨vs, h1, h2, h3⟩ := ar b hb
  refine ⟨hk, vs, h1, h2, ?_⟩
  rcases h3 with e | e
  · rw [argH_at hb hk e, hoOf_lst] at q
    exact .inl ⟨e, (Option.some.inj q).symm⟩
  · rw [argH_at hb hk e, hoOf_tup] at q
    exact .inr ⟨e, (Option.some.inj q).symm⟩
theorem argH_only (ar : ∀ a ∈ A, ArgOb h A a) : OnlyF (argH K h A) := fun b => by
  cases q : argH K h A b with
  | none => exact .inl rfl
  | some u =>
    obtain ⟨_, vs, _, _, ⟨_, e⟩ | ⟨_, e⟩⟩ := argH_is ar q
    · exact .inr ⟨_, _, by rw [e]⟩
    · exact .inr ⟨_, _, by rw [e]⟩
theorem argH_ok (ar : ∀ a ∈ A, ArgOb h A a) : HOk P w (argH K h A) h := fun b u q => by
  obtain ⟨_, vs, h1, h2, ⟨e, rfl⟩ | ⟨e, rfl⟩⟩ := argH_is ar q
  · exact ⟨e, by rw [List.length_map]; exact h1, vs, _, vals_toV h2, e⟩
  · exact ⟨e, by rw [List.length_map]; exact h1, vs, vals_toV h2, _, e, rfl, _, rfl⟩
theorem seq_inj {c c' : Value} {vs us : List Value} (e : (some { cls := c, data := .seq vs.toArray } : Option Obj) = some { cls := c', data := .seq us.toArray }) : c = c' ∧ vs = us := by
  have e1 := Option.some.inj e
  have e2 : c = c' := congrArg Obj.cls e1
  have e3 : Data.seq vs.toArray = Data.seq us.toArray := congrArg Obj.data e1
  injection e3 with e4
  refine ⟨e2, ?_⟩
  have e5 := congrArg Array.toList e4
  simpa using e5
/-- a list argument -/
theorem argL (KX : K.In h) (ar : ∀ a ∈ A, ArgOb h A a) {a : Addr} {vs : List Value} (ha : a ∈ A) (e : h.get? a = some { cls := .type "list", data := .seq vs.toArray }) : (∀ u ∈ vs, OkU A u) ∧ SqL K (argH K h A) a (vs.map toV) := by
  obtain ⟨us, h1, h2, h3⟩ := ar a ha
  have hu : us = vs := by
    rcases h3 with q | q
    · rw [e] at q
      exact (seq_inj q).2.symm
    · rw [e] at q
      exact absurd (Value.type.inj (seq_inj q).1) (by decide)
  subst hu
  refine ⟨h2, ?_⟩
  cases hk : K.lookup a with
  | none => exact .inl (.inr ⟨_, by rw [argH_at ha hk e, hoOf_lst]⟩)
  | some o =>
    have e2 := KX a o hk
    rw [e] at e2
    obtain rfl := Option.some.inj e2
    exact .inr ⟨_, us.toArray, _, hk, rfl, rfl, rfl, by rw [List.size_toArray]; exact h1, by simpa using vals_toV h2⟩
theorem argT (KX : K.In h) (ar : ∀ a ∈ A, ArgOb h A a) {a : Addr} {vs : List Value} (ha : a ∈ A) (e : h.get? a = some { cls := .type "tuple", data := .seq vs.toArray }) : (∀ u ∈ vs, OkU A u) ∧ SqT K (argH K h A) a (vs.map toV) := by
  obtain ⟨us, h1, h2, h3⟩ := ar a ha
  have hu : us = vs := by
    rcases h3 with q | q
    · rw [e] at q
      exact absurd (Value.type.inj (seq_inj q).1) (by decide)
    · rw [e] at q
      exact (seq_inj q).2.symm
  subst hu
  refine ⟨h2, ?_⟩
  cases hk : K.lookup a with
  | none => exact .inl (.inr ⟨_, by rw [argH_at ha hk e, hoOf_tup]⟩)
  | some o =>
    have e2 := KX a o hk
    rw [e] at e2
    obtain rfl := Option.some.inj e2
    exact .inr ⟨_, us.toArray, _, hk, rfl, rfl, by rw [List.size_toArray]; exact h1, by simpa using vals_toV h2⟩
mutual
theorem dw_one {Pm : Params} (KX : K.In h) (ar : ∀ a ∈ A, ArgOb h A a) : ∀ (d : WData) (v : Value), Well Pm h v d → plW d = true → OkU A v → Dw K (argH K h A) (toV v) d
  | .none, _, x, _, _ => by
    cases x
    exact .non
  | .bool b, _, x, _, _ => by
    cases x
    exact .bl b
  | .int i, _, x, _, _ => by
    cases x
    exact .int i
  | .str s, _, x, _, _ => by
    cases x
    exact .str s
  | .bytes b, _, x, _, _ => by
    cases x
    have z := Dw.byt (K := K) (H := argH K h A) b.toArray
    exact z
  | .list ds, _, x, p, hu => by
    obtain ⟨a, vs, rfl, ho, hall⟩ := well_list x
    obtain ⟨h2, hs⟩ := argL KX ar hu ho
    exact .lst hs (dw_all KX ar ds _ hall p h2)
  | .tuple ds, _, x, p, hu => by
    obtain ⟨a, vs, rfl, ho, hall⟩ := well_tuple x
    obtain ⟨h2, hs⟩ := argT KX ar hu ho
    exact .tup hs (dw_all KX ar ds _ hall p h2)
  | .float _, _, _, p, _ => Bool.noConfusion (show false = true from p)
  | .dict _, _, _, p, _ => Bool.noConfusion (show false = true from p)
  | .bytearray _, _, _, p, _ => Bool.noConfusion (show false = true from p)
  | .set _, _, _, p, _ => Bool.noConfusion (show false = true from p)
  | .frozenset _, _, _, p, _ => Bool.noConfusion (show false = true from p)
  | .obj _ _, _, _, p, _ => Bool.noConfusion (show false = true from p)
theorem dw_all {Pm : Params} (KX : K.In h) (ar : ∀ a ∈ A, ArgOb h A a) : ∀ (ds : List WData) (vs : List Value), WellAll Pm h vs ds → plWs ds = true → (∀ u ∈ vs, OkU A u) → DwAll K (argH K h A) (vs.map toV) ds
  | [], _, x, _, _ => by
    cases x
    exact .nil
  | d :: ds, _, x, p, hu => by
    obtain ⟨v, vs, rfl, x1, x2⟩ := well_cons x
    have q : plW d = true ∧ plWs ds = true := Bool.and_eq_true_iff.mp p
    exact .cons (dw_one KX ar d v x1 q.1 (hu _ (List.mem_cons_self ..))) (dw_all KX ar ds vs x2 q.2 fun u m => hu u (List.mem_cons_of_mem _ m))
end
end
/-! ### the call -/
theorem spec_call {P : Program} {w : World} {K : PySem.W.Frag} {mg mb : Str → Option Value} {CX : CXT} {k : Nat} {fa : Addr} {fd : FuncData} {ps : List Str} {sp : Sp} {s₁ : Shared} {vals : List Value} {ds : List WData} {R : PySem.W.WRecords} {cl : Str → Option Addr} {d0 : WData}
    (KX : K.In s₁.heap) (hns : s₁.heap.Ns mainGlobals mg) (hb : s₁.heap.Ns builtinsNs mb) (hbb : ∀ x : Str, x ≠ "__name__" → mb x = bootBuiltins x) (hlim : s₁.heap.NoLimit) (hg : s₁.gens = #[])
    (hwl : WellAll w.params s₁.heap vals ds) (hpl : plWs ds = true) (hwt : ∀ d ∈ ds, d.weight ≤ 1048576) (hr : Room k callerA)
    (F : ∀ base : Heap, K.In base → base.Ns mainGlobals mg → FnOk P w K mg base CX k fa fd ps sp) (hbind : ∀ (s : Shared) (us : List Value), us.length = ps.length → BindsTo s fd ⟨us, []⟩ (ps.zip us)) (hlen : ds.length = ps.length)
    (hsp : ∀ (H : Hp) (xs : List V), OnlyF H → DwAll K H xs ds → sp xs H (fun v H' => Dw K H' v d0) fun _ _ _ => False)
    (hCX : ∀ H e s', CX [] H s₁ (fun _ _ _ => False) e s' → False) :
    codeAny (model P w) callerA (.call (.ref fa) ⟨vals, []⟩) (fun r s' => ∃ u as, r = .ok (.ret u) ∧ ReadsW R cl s'.heap u d0 as ∧ OldK s₁.heap s'.heap ∧ s'.os = s₁.os ∧ AllBare s'.gens) s₁ := by
  obtain ⟨A, ho, ar⟩ := area_all ds vals hwl hpl hwt
  have hO : OnlyF (argH K s₁.heap A) := argH_only ar
  have hok : HOk P w (argH K s₁.heap A) s₁.heap := argH_ok ar
  have hS := dw_all KX ar ds vals hwl hpl ho
  have hV := vals_toV ho
  have hK : ∀ b u, argH K s₁.heap A b = some u → K.lookup b = none := fun b u q => (argH_is ar q).1
  have noA : ∀ {b : Addr} {o : Obj} {es : Array DictEntry} {ep : Nat}, s₁.heap.get? b = some o → o.data = .dict es ep → argH K s₁.heap A b = none := fun {b o es ep} e d => by
    cases q : argH K s₁.heap A b with
    | none => rfl
    | some u =>
      obtain ⟨_, vs, _, _, ⟨e2, _⟩ | ⟨e2, _⟩⟩ := argH_is ar q
      · rw [e2] at e
        cases e
        have d' : Data.seq vs.toArray _ = Data.dict es ep := d
        cases d'
      · rw [e2] at e
        cases e
        have d' : Data.seq vs.toArray _ = Data.dict es ep := d
        cases d'
  generalize argH K s₁.heap A = H at hO hok hS hK noA
  have base_of : ∀ {b : Addr} {o : Obj}, s₁.heap.get? b = some o → H b = none → (hidT s₁.heap H).get? b = some o := fun e n => hidT_get e n
  have nsK : ∀ {b : Addr} {m : Str → Option Value}, s₁.heap.Ns b m → (hidT s₁.heap H).Ns b m := fun {b m} ⟨o, es, ep, e, d, r⟩ => ⟨o, es, ep, base_of e (noA e d), d, r⟩
  have nK : ∀ b o, K.lookup b = some o → H b = none := fun b o e => by
    cases q : H b with
    | none => rfl
    | some u =>
      rw [hK b u q] at e
      cases e
  have hKb : K.In (hidT s₁.heap H) := fun b o e => base_of (KX b o e) (nK b o e)
  have hM : Mod K mg (hidT s₁.heap H) := ⟨hKb, nsK hns, ⟨mb, nsK hb, hbb⟩, let ⟨mc, h1, h2⟩ := hlim; ⟨mc, nsK h1, h2⟩⟩
  have e0 : Env0 P w K mg (hidT s₁.heap H) callerA [] s₁ H := ⟨rfl, hM, fun b o e => of_hidT e, Nat.le_of_eq (hidT_size _ _), trivial, fun b hb => absurd (show b ∈ ([] : List Addr) from hb) (by simp), hok, .of_eq hg⟩
  have hl : vals.length = ps.length := by rw [wellAll_len hwl]; exact hlen
  refine codeAny_mono ((F _ hKb (nsK hns)).run callerA [] s₁ H ⟨vals, []⟩ vals (vals.map toV) _ _ hr e0 (hbind s₁ vals hl) hV (hsp H _ hO hS)) fun r s' x => ?_
  cases r with
  | error e => exact (hCX H e s' x).elim
  | ok fl =>
    cases fl with
    | next => exact False.elim x
    | brk => exact False.elim x
    | cont => exact False.elim x
    | ret u =>
      obtain ⟨v, H', os, bare, un, hok', r', q⟩ := x
      have kept : ∀ b o, s₁.heap.get? b = some o → s'.heap.get? b = some o := fun b o e => by
        cases q2 : H b with
        | none => exact un.keep b o e q2 (by intro z; exact absurd (show b ∈ ([] : List Addr) from z) (by simp)) (by simp)
        | some u2 =>
          rcases hO b with z | ⟨ob, u3, z⟩
          · rw [q2] at z
            cases z
          · have z2 := un.frzs b ob _ z
            obtain ⟨e1, _⟩ := hok b _ z
            obtain ⟨e2, _⟩ := hok' b _ z2
            rw [e] at e1
            cases e1
            exact e2
      have KX' : K.In s'.heap := fun b o e => kept b o (KX b o e)
      obtain ⟨as, hrd⟩ := Dw.reads (R := R) (cl := cl) hok' KX' d0 v u q r'
      exact ⟨u, as, rfl, hrd, OldK.of_keep kept, os, bare⟩
/-! ### the row -/
theorem layable_weight {ds : List WData} (h : WData.layableAll ds = true) : ∀ d ∈ ds, d.weight ≤ 1048576 := fun d hd =>
  (PySem.W.layableW_iff.mp (List.all_eq_true.mp h d hd)).2.2
theorem encAll_len : ∀ (cs : List Codec) (a : Codec.denoteAll cs), (Codec.encAll cs a).length = cs.length
  | [], _ => rfl
  | c :: cs, a => by
    show (Codec.encAll cs a.2).length + 1 = cs.length + 1
    rw [encAll_len cs a.2]
/-- the goal that k_headS leaves (case hc), from the promise of the row's def: whatever the arguments that the codecs let and the row asks for, the def gives what stands for enc (f ..) -/
theorem walk_spec {r : OpenSpec} {k : Nat} {q : Program} {loose : List Str} {XP : (Str → Option Value) → Heap → Prop} {YP : World → Heap → Prop} {d : DefRec} {K : Params → PySem.W.Frag} {CX : World → CXT} {ps : List Str} {sp : World → Sp}
    (hwell : r.wellSaid = true) (hdf : d.params.defaults = []) (hlen : r.args.length = ps.length) (hr : Room k callerA)
    (hY : ∀ (w : World) (h : Heap), YP w h → (K w.params).In h)
    (F : ∀ (w : World) (mg : Str → Option Value) (fa : Addr) (h : Heap), YP w h → (K w.params).In h → h.Ns mainGlobals mg → mg d.name = some (.ref fa) →
      ∃ fd : FuncData, (∀ (s : Shared) (us : List Value), us.length = ps.length → BindsTo s fd ⟨us, []⟩ (ps.zip us)) ∧
        ∀ base : Heap, (K w.params).In base → base.Ns mainGlobals mg → FnOk r.prog w (K w.params) mg base (CX w) k fa fd ps (sp w))
    (hsp : ∀ (w : World) (H : Hp) (xs : List V) (a : Codec.denoteAll r.args), OnlyF H → Codec.withinAll r.args a = true → Codec.app r.args r.asked a = true → DwAll (K w.params) H xs (Codec.encAll r.args a) →
      sp w xs H (fun v H' => Dw (K w.params) H' v (r.ret.enc (Codec.app r.args r.f a))) fun _ _ _ => False)
    (hCX : ∀ (w : World) (H : Hp) (s : Shared) (e : Value) (s' : Shared), CX w [] H s (fun _ _ _ => False) e s' → False) :
    PySem.W.WalkOS q loose XP YP r d [] (fun f vs => PySem.call f vs) := by
  intro w s_0 s₁ mg mb G Y fa o pm cd doc dV kV ho hd hcd hD hmg hg args vals as hpre hlay hrd hwl hlo
  obtain ⟨a, e1, e2⟩ := PySem.W.os_pre_some hpre
  obtain ⟨e3, hwi⟩ := Codec.encAll_of_decAll r.args args a e1
  subst e3
  have KX := hY w _ Y
  obtain ⟨fd, hb, hF⟩ := F w mg fa _ Y KX G.T.g hmg
  refine PySem.W.enter_call (codeAny_mono (spec_call (R := []) (cl := classAt s_0.heap) (d0 := r.ret.enc (Codec.app r.args r.f a)) KX G.T.g G.T.b G.T.builtins G.T.nolimit hg hwl (pl_encAll _ _) (layable_weight hlay) hr hF hb (by rw [encAll_len]; exact hlen)
    (fun H xs hO hS => hsp w H xs a hO hwi e2 hS) fun H e s' => hCX w H s₁ e s') fun r' s' hq => ?_)
  obtain ⟨u, as', rfl, h1, h2, h3, h4⟩ := hq
  exact ⟨.inl ⟨u, _, as', rfl, fun _ => rfl, h1, (OpenSpec.post_iff hwell hwi _ _).mpr rfl, fun z => Bool.noConfusion (show false = true from z)⟩, h2, h3, h4⟩
/-- the same where the promise hangs on the written part alone -/
theorem walk_specK {r : OpenSpec} {k : Nat} {q : Program} {loose : List Str} {XP : (Str → Option Value) → Heap → Prop} {YP : World → Heap → Prop} {d : DefRec} {K : Params → PySem.W.Frag} {CX : CXT} {ps : List Str} {sp : PySem.W.Frag → Sp}
    (hwell : r.wellSaid = true) (hdf : d.params.defaults = []) (hlen : r.args.length = ps.length) (hr : Room k callerA)
    (hY : ∀ (w : World) (h : Heap), YP w h → (K w.params).In h)
    (F : ∀ (w : World) (mg : Str → Option Value) (fa : Addr) (h : Heap), YP w h → (K w.params).In h → h.Ns mainGlobals mg → mg d.name = some (.ref fa) →
      ∃ fd : FuncData, (∀ (s : Shared) (us : List Value), us.length = ps.length → BindsTo s fd ⟨us, []⟩ (ps.zip us)) ∧
        ∀ base : Heap, (K w.params).In base → base.Ns mainGlobals mg → FnOk r.prog w (K w.params) mg base CX k fa fd ps (sp (K w.params)))
    (hsp : ∀ (K : PySem.W.Frag) (H : Hp) (xs : List V) (a : Codec.denoteAll r.args), OnlyF H → Codec.withinAll r.args a = true → Codec.app r.args r.asked a = true → DwAll K H xs (Codec.encAll r.args a) →
      sp K xs H (fun v H' => Dw K H' v (r.ret.enc (Codec.app r.args r.f a))) fun _ _ _ => False)
    (hCX : ∀ (H : Hp) (s : Shared) (e : Value) (s' : Shared), CX [] H s (fun _ _ _ => False) e s' → False) :
    PySem.W.WalkOS q loose XP YP r d [] (fun f vs => PySem.call f vs) :=
  walk_spec (K := K) (CX := fun _ => CX) (sp := fun w => sp (K w.params)) hwell hdf hlen hr hY F (fun w H xs a h1 h2 h3 h4 => hsp (K w.params) H xs a h1 h2 h3 h4) fun _ H s e s' => hCX H s e s'
end L2
-- rests on (row put in by the clerk, for the bench that shows a file only what it spells): KE.SpHead KE.OsShapes
end
namespace My
open Kp120 (Kind)
open Kp121 (Part How)

/-- the parts that a row tells -/
def partsOf : List Int → List Part
  | a :: b :: c :: d :: e :: r => ⟨a.toNat, b.toNat, c.toNat, d.toNat, e.toNat⟩ :: partsOf r
  | _ => []
theorem partsOf_len : ∀ (n : Nat) (l : List Int), l.length = 5 * n → (partsOf l).length = n
  | 0, [], _ => rfl
  | n + 1, a :: b :: c :: d :: e :: r, h => by
    have h1 : r.length = 5 * n := by simp at h; omega
    show (partsOf r).length + 1 = n + 1
    rw [partsOf_len n r h1]
  | 0, _ :: _, h => by simp at h
  | n + 1, [], h => by simp at h
  | n + 1, [_], h => by simp at h; omega
  | n + 1, [_, _], h => by simp at h; omega
  | n + 1, [_, _, _], h => by simp at h; omega
  | n + 1, [_, _, _, _], h => by simp at h; omega
theorem partsOf_get : ∀ (n : Nat) (l : List Int), l.length = 5 * n → ∀ i, i < n → (∀ x ∈ l, 0 ≤ x) → ∃ p : Part, (partsOf l)[i]? = some p ∧
    l[5 * i]? = some (p.kind : Int) ∧ l[5 * i + 1]? = some (p.a : Int) ∧ l[5 * i + 2]? = some (p.b : Int) ∧ l[5 * i + 3]? = some (p.c : Int) ∧ l[5 * i + 4]? = some (p.d : Int)
  | 0, _, _, i, hi, _ => absurd hi (Nat.not_lt_zero i)
  | n + 1, a :: b :: c :: d :: e :: r, h, i, hi, h0 => by
    have h1 : r.length = 5 * n := by simp at h; omega
    have q : ∀ x ∈ a :: b :: c :: d :: e :: r, ((x.toNat : Nat) : Int) = x := fun x hx => Int.toNat_of_nonneg (h0 x hx)
    match i, hi with
    | 0, _ =>
      refine ⟨_, rfl, ?_, ?_, ?_, ?_, ?_⟩
      · exact congrArg some (q a (by simp)).symm
      · exact congrArg some (q b (by simp)).symm
      · exact congrArg some (q c (by simp)).symm
      · exact congrArg some (q d (by simp)).symm
      · exact congrArg some (q e (by simp)).symm
    | i + 1, hi =>
      obtain ⟨p, e0, e1, e2, e3, e4, e5⟩ := partsOf_get n r h1 i (by omega) (fun x hx => h0 x (by simp [hx]))
      refine ⟨p, e0, ?_, ?_, ?_, ?_, ?_⟩
      · rw [show 5 * (i + 1) = 5 * i + 1 + 1 + 1 + 1 + 1 by omega]; exact e1
      · rw [show 5 * (i + 1) + 1 = 5 * i + 1 + 1 + 1 + 1 + 1 + 1 by omega]; exact e2
      · rw [show 5 * (i + 1) + 2 = 5 * i + 2 + 1 + 1 + 1 + 1 + 1 by omega]; exact e3
      · rw [show 5 * (i + 1) + 3 = 5 * i + 3 + 1 + 1 + 1 + 1 + 1 by omega]; exact e4
      · rw [show 5 * (i + 1) + 4 = 5 * i + 4 + 1 + 1 + 1 + 1 + 1 by omega]; exact e5
  | n + 1, [], h, _, _, _ => by simp at h
  | n + 1, [_], h, _, _, _ => by simp at h; omega
  | n + 1, [_, _], h, _, _, _ => by simp at h; omega
  | n + 1, [_, _, _], h, _, _, _ => by simp at h; omega
  | n + 1, [_, _, _, _], h, _, _, _ => by simp at h; omega
theorem chunks_parts : ∀ (n f : Nat) (l : List Int), l.length = 5 * n → n ≤ f → (Kp121Neutral.chunksBy 5 f l).map Kp121Neutral.part = partsOf l
  | 0, f, [], _, _ => by cases f <;> rfl
  | n + 1, 0, _, _, h => absurd h (by omega)
  | n + 1, f + 1, a :: b :: c :: d :: e :: r, h, hf => by
    have h1 : r.length = 5 * n := by simp at h; omega
    unfold Kp121Neutral.chunksBy
    rw [if_neg (by simp), List.map_cons]
    have := chunks_parts n f r h1 (by omega)
    show _ :: (Kp121Neutral.chunksBy 5 f r).map Kp121Neutral.part = _
    rw [this]
    rfl
  | 0, _, _ :: _, h, _ => by simp at h
  | n + 1, f + 1, [], h, _ => by simp at h
  | n + 1, f + 1, [_], h, _ => by simp at h; omega
  | n + 1, f + 1, [_, _], h, _ => by simp at h; omega
  | n + 1, f + 1, [_, _, _], h, _ => by simp at h; omega
  | n + 1, f + 1, [_, _, _, _], h, _ => by simp at h; omega

/-- the how of a call -/
def howOf (code data : Kind) (cm dm no : Nat) (p : List Part) : How := ⟨code, data, cm, dm, p.length, no, (p ++ List.replicate 64 (⟨0, 0, 0, 0, 0⟩ : Part)).take 64⟩
theorem how_eq {a0 a1 a2 a3 b0 b1 b2 b3 m n o : Int} {r : List Int} (h : r.length % 5 = 0) : Kp121Neutral.how [a0, a1, a2, a3, b0, b1, b2, b3, m, n, o] r =
    howOf ⟨a0.toNat, a1.toNat, a2.toNat, a3.toNat⟩ ⟨b0.toNat, b1.toNat, b2.toNat, b3.toNat⟩ m.toNat n.toNat o.toNat (partsOf r) := by
  have e : (Kp121Neutral.chunks 5 r).map Kp121Neutral.part = partsOf r := chunks_parts (r.length / 5) r.length r (by omega) (by omega)
  unfold Kp121Neutral.how howOf
  rw [e]
  rfl

/-- one part, by the kind of the data cache and its place -/
def goodP (data : Kind) (i : Nat) (p : Part) : Bool := if p.kind = 0 then decide (p.b ≤ 65535) && (decide (p.d < p.c) || decide ((Kp120.linesOf data p.c p.d).length ≤ 64)) else if p.kind = 1 ∨ p.kind = 2 then decide (p.a < i) && decide (p.b < i) else decide (p.kind = 3) && decide (p.a < i) && decide (p.b ≤ 4096)
abbrev M3 := Nat × Nat × Nat
def meas (l : List M3) (p : Part) : M3 := if p.kind = 0 then (1, 1, 1) else if p.kind = 3 then (2 * (l.getD p.a (0, 0, 0)).1 + 1, (l.getD p.a (0, 0, 0)).2.1 + 1, p.b * (l.getD p.a (0, 0, 0)).2.2) else
  ((l.getD p.a (0, 0, 0)).1 + (l.getD p.b (0, 0, 0)).1 + 1, max (l.getD p.a (0, 0, 0)).2.1 (l.getD p.b (0, 0, 0)).2.1 + 1, if p.kind = 1 then (l.getD p.a (0, 0, 0)).2.2 + (l.getD p.b (0, 0, 0)).2.2 else max (l.getD p.a (0, 0, 0)).2.2 (l.getD p.b (0, 0, 0)).2.2)
def sizesOf (ps : List Part) : List M3 := ps.foldl (fun l p => l ++ [meas l p]) []
def bsOf (data : Kind) (ps : List Part) : List Bool := ps.mapIdx (goodP data)
def okParts (data : Kind) (ps : List Part) : Bool := if 1 ≤ ps.length ∧ ps.length ≤ 64 then (bsOf data ps).all id else false
def okProg (ps : List Part) : Bool := decide (((sizesOf ps).getD (ps.length - 1) (0, 0, 0)).1 ≤ 1024) && decide (((sizesOf ps).getD (ps.length - 1) (0, 0, 0)).2.1 ≤ 32) && decide (((sizesOf ps).getD (ps.length - 1) (0, 0, 0)).2.2 ≤ 4294967296)
/-- as the program asks it, one thing after another -/
def okHow (code data : Kind) (cm dm no : Nat) (ps : List Part) : Bool :=
  if Kp120.goodKind code = true ∧ Kp120.goodKind data = true then (if cm ≤ 65535 ∧ dm ≤ 65535 ∧ no = 0 then (if okParts data ps = true then okProg ps else false) else false) else false

theorem sizesOf_snoc (ps : List Part) (p : Part) : sizesOf (ps ++ [p]) = sizesOf ps ++ [meas (sizesOf ps) p] := by
  unfold sizesOf
  rw [List.foldl_append]
  rfl
theorem sizesOf_len (ps : List Part) : (sizesOf ps).length = ps.length := by
  have h : ∀ (ps : List Part) (l : List M3), (ps.foldl (fun l p => l ++ [meas l p]) l).length = l.length + ps.length := by
    intro ps
    induction ps with
    | nil => intro l; rfl
    | cons p r ih =>
      intro l
      rw [List.foldl_cons, ih, List.length_append, List.length_cons]
      simp
      omega
  have := h ps []
  simpa [sizesOf] using this
theorem part_take {ps : List Part} (h : ps.length ≤ 64) : ((ps ++ List.replicate 64 (⟨0, 0, 0, 0, 0⟩ : Part)).take 64).take ps.length = ps := by
  rw [List.take_take, Nat.min_eq_left h, List.take_left]
theorem part_get {ps : List Part} {i : Nat} (h : ps.length ≤ 64) (hi : i < ps.length) : ((ps ++ List.replicate 64 (⟨0, 0, 0, 0, 0⟩ : Part)).take 64)[i]? = ps[i]? := by
  rw [List.getElem?_take_of_lt (by omega), List.getElem?_append_left hi]
theorem all_parts (data : Kind) {ps : List Part} (f : Nat → Option Part) (h : ∀ i, i < ps.length → f i = ps[i]?) : (List.range ps.length).all (fun i => match f i with | none => false | some p => goodP data i p) = (bsOf data ps).all id := by
  rw [Bool.eq_iff_iff, List.all_eq_true, List.all_eq_true]
  constructor
  · intro q x hx
    obtain ⟨i, hi, e⟩ := List.mem_iff_getElem.mp hx
    have hi' : i < ps.length := by simpa [bsOf] using hi
    have q1 := q i (List.mem_range.mpr hi')
    rw [h i hi', List.getElem?_eq_getElem hi'] at q1
    rw [← e]
    simpa [bsOf] using q1
  · intro q i hi
    have hi' := List.mem_range.mp hi
    rw [h i hi', List.getElem?_eq_getElem hi']
    have : goodP data i ps[i] ∈ bsOf data ps := by
      refine List.mem_iff_getElem.mpr ⟨i, by simpa [bsOf] using hi', by simp [bsOf]⟩
    exact q _ this
theorem sizes_eq (code data : Kind) (cm dm no : Nat) {ps : List Part} (h : ps.length ≤ 64) : Kp121.sizes (howOf code data cm dm no ps) = sizesOf ps := by
  show List.foldl _ [] (((ps ++ List.replicate 64 (⟨0, 0, 0, 0, 0⟩ : Part)).take 64).take ps.length) = _
  rw [part_take h]
  rfl
theorem right_eq (code data : Kind) (cm dm no : Nat) (ps : List Part) : Kp121.right (howOf code data cm dm no ps) = okHow code data cm dm no ps := by
  have hz : 1 ≤ ps.length → ps.length ≤ 64 → Kp121.right (howOf code data cm dm no ps) = (Kp120.goodKind code && Kp120.goodKind data && decide (cm ≤ 65535) && decide (dm ≤ 65535) && decide (1 ≤ ps.length) && decide (ps.length ≤ 64) && decide (no = 0) && (bsOf data ps).all id && okProg ps) := by
    intro h1 h2
    unfold Kp121.right
    rw [sizes_eq code data cm dm no h2]
    have e := all_parts data (ps := ps) (fun i => (howOf code data cm dm no ps).part[i]?) (fun i hi => part_get h2 hi)
    show (_ && _ && _ && _ && _ && _ && _ && (List.range ps.length).all (fun i => match (howOf code data cm dm no ps).part[i]? with | none => false | some p => goodP data i p) && _) = _
    rw [e]
    rfl
  unfold okHow okParts
  by_cases h1 : 1 ≤ ps.length
  · by_cases h2 : ps.length ≤ 64
    · rw [hz h1 h2]
      generalize (bsOf data ps).all id = B
      cases Kp120.goodKind code <;> cases Kp120.goodKind data <;> simp [h1, h2]
      by_cases c1 : cm ≤ 65535 <;> by_cases c2 : dm ≤ 65535 <;> by_cases c3 : no = 0 <;> simp [c1, c2, c3]
    · have : Kp121.right (howOf code data cm dm no ps) = false := by
        unfold Kp121.right
        have e : decide ((howOf code data cm dm no ps).count ≤ 64) = false := decide_eq_false h2
        rw [e]
        simp
      rw [this]
      simp [h2]
  · have : Kp121.right (howOf code data cm dm no ps) = false := by
      unfold Kp121.right
      have e : decide (1 ≤ (howOf code data cm dm no ps).count) = false := decide_eq_false h1
      rw [e]
      simp
    rw [this]
    simp [h1]
theorem tt_right_eq {a0 a1 a2 a3 b0 b1 b2 b3 m n o : Int} {r : List Int} (h : r.length % 5 = 0) : PyKp121.tt_right a0 a1 a2 a3 b0 b1 b2 b3 m n o r =
    [0, if okHow ⟨a0.toNat, a1.toNat, a2.toNat, a3.toNat⟩ ⟨b0.toNat, b1.toNat, b2.toNat, b3.toNat⟩ m.toNat n.toNat o.toNat (partsOf r) = true then 0 else -22] := by
  show [0, Kp121.answer (.right (Kp121Neutral.how [a0, a1, a2, a3, b0, b1, b2, b3, m, n, o] r))] = _
  rw [how_eq h]
  show [0, if Kp121.right _ = true then (0 : Int) else -22] = _
  rw [right_eq]
end My
namespace My
open Kp120 (Kind)
open Kp121 (Part)
theorem line_eq (k : Kind) (x : Nat) : (x : Int) / 2 ^ ((k.line : Int)).toNat = ((Kp120.lineOf k x : Nat) : Int) := by
  unfold Kp120.lineOf
  rw [Int.toNat_natCast, Int.natCast_ediv, Int.natCast_pow]
  rfl
theorem gk_eq (k : Kind) : ((decide ((2 : Int) ≤ (k.line : Int)) && decide ((k.line : Int) ≤ 8)) && ((((1 : Int) == (k.sets : Int)) || (((2 : Int) == (k.sets : Int)) || (((4 : Int) == (k.sets : Int)) || (((8 : Int) == (k.sets : Int)) || (((16 : Int) == (k.sets : Int)) || false))))) &&
    ((decide ((1 : Int) ≤ (k.ways : Int)) && decide ((k.ways : Int) ≤ 8)) && decide ((k.none_ : Int) = 0)))) = Kp120.goodKind k := by
  unfold Kp120.goodKind
  rw [Bool.eq_iff_iff]
  simp only [Bool.and_eq_true, Bool.or_eq_true, decide_eq_true_eq, beq_iff_eq, List.contains_cons, List.contains_nil, Bool.false_eq_true, or_false]
  omega
/-- in how many lines a step's bytes are -/
def cntL (k : Kind) (p : Part) : Int := if p.c ≤ p.d then (Kp120.lineOf k p.d : Int) - (Kp120.lineOf k p.c : Int) + 1 else 0
theorem lines_len (k : Kind) (c d : Nat) : (Kp120.linesOf k c d).length = Kp120.lineOf k d + 1 - Kp120.lineOf k c := by
  simp [Kp120.linesOf]
theorem goodP_step {k : Kind} {i : Nat} {p : Part} (h : p.kind = 0) : (decide ((p.b : Int) ≤ 65535) && decide (cntL k p ≤ 64)) = goodP k i p := by
  unfold goodP cntL
  rw [if_pos h, lines_len, Bool.eq_iff_iff]
  simp only [Bool.and_eq_true, Bool.or_eq_true, decide_eq_true_eq]
  by_cases hc : p.c ≤ p.d
  · rw [if_pos hc]
    have : Kp120.lineOf k p.c ≤ Kp120.lineOf k p.d := Nat.div_le_div_right hc
    omega
  · rw [if_neg hc]
    omega
theorem goodP_two {k : Kind} {i : Nat} {p : Part} (h : p.kind = 1 ∨ p.kind = 2) : (decide ((p.a : Int) < (i : Int)) && decide ((p.b : Int) < (i : Int))) = goodP k i p := by
  unfold goodP
  rw [if_neg (by omega), if_pos h, Bool.eq_iff_iff]
  simp only [Bool.and_eq_true, decide_eq_true_eq]
  omega
theorem goodP_loop {k : Kind} {i : Nat} {p : Part} (h : p.kind = 3) : (decide ((p.a : Int) < (i : Int)) && decide ((p.b : Int) ≤ 4096)) = goodP k i p := by
  unfold goodP
  rw [if_neg (by omega), if_neg (by omega), Bool.eq_iff_iff]
  simp only [Bool.and_eq_true, decide_eq_true_eq]
  omega
theorem goodP_no {k : Kind} {i : Nat} {p : Part} (h0 : ¬ p.kind = 0) (h1 : ¬ (p.kind = 1 ∨ p.kind = 2)) (h3 : ¬ p.kind = 3) : false = goodP k i p := by
  unfold goodP
  rw [if_neg h0, if_neg h1, decide_eq_false h3]
  rfl
/-- what measuring asks of a part -/
def canMeas (n : Nat) (p : Part) : Prop := p.kind = 0 ∨ (p.kind = 3 ∧ p.a < n ∧ p.b ≤ 4096) ∨ ((p.kind = 1 ∨ p.kind = 2) ∧ p.a < n ∧ p.b < n)
theorem canMeas_of {k : Kind} {i : Nat} {p : Part} (h : goodP k i p = true) : canMeas i p := by
  unfold goodP at h
  unfold canMeas
  by_cases h0 : p.kind = 0
  · exact .inl h0
  · rw [if_neg h0] at h
    by_cases h1 : p.kind = 1 ∨ p.kind = 2
    · rw [if_pos h1] at h
      simp only [Bool.and_eq_true, decide_eq_true_eq] at h
      exact .inr (.inr ⟨h1, h⟩)
    · rw [if_neg h1] at h
      simp only [Bool.and_eq_true, decide_eq_true_eq] at h
      exact .inr (.inl ⟨h.1.1, h.1.2, h.2⟩)
theorem bs_get {k : Kind} {ps : List Part} (h : (bsOf k ps).all id = true) {i : Nat} {p : Part} (e : ps[i]? = some p) : goodP k i p = true := by
  have hm : goodP k i p ∈ bsOf k ps := by
    refine List.mem_of_getElem? (i := i) ?_
    rw [bsOf, List.getElem?_mapIdx, e]
    rfl
  exact List.all_eq_true.mp h _ hm
theorem getD_of {α : Type} {l : List α} {i : Nat} {x d : α} (h : l[i]? = some x) : l.getD i d = x := by
  rw [List.getD_eq_getElem?_getD, h]
  rfl
theorem meas_step {l : List M3} {p : Part} (h : p.kind = 0) : meas l p = (1, 1, 1) := by
  unfold meas
  rw [if_pos h]
theorem meas_loop {l : List M3} {p : Part} {x : M3} (h : p.kind = 3) (hx : l[p.a]? = some x) : meas l p = (2 * x.1 + 1, x.2.1 + 1, p.b * x.2.2) := by
  unfold meas
  rw [if_neg (by omega), if_pos h, getD_of hx]
theorem meas_two {l : List M3} {p : Part} {x y : M3} (h : p.kind = 1 ∨ p.kind = 2) (hx : l[p.a]? = some x) (hy : l[p.b]? = some y) : meas l p = (x.1 + y.1 + 1, max x.2.1 y.2.1 + 1, if p.kind = 1 then x.2.2 + y.2.2 else max x.2.2 y.2.2) := by
  unfold meas
  rw [if_neg (by omega), if_neg (by omega), getD_of hx, getD_of hy]
theorem max_eq (i j : Nat) : (if (j : Int) > (i : Int) then (j : Int) else (i : Int)) = ((max i j : Nat) : Int) := by
  by_cases h : (j : Int) > (i : Int)
  · rw [if_pos h, Nat.max_eq_right (by omega)]
  · rw [if_neg h, Nat.max_eq_left (by omega)]
theorem sizes_take {ps : List Part} {i : Nat} {p : Part} (e : ps[i]? = some p) : sizesOf (ps.take (i + 1)) = sizesOf (ps.take i) ++ [meas (sizesOf (ps.take i)) p] := by
  have e2 : ps.take (i + 1) = ps.take i ++ [p] := by
    rw [List.take_add_one, e]
    rfl
  rw [e2, sizesOf_snoc]
theorem sizes_last {ps : List Part} (h : 1 ≤ ps.length) : ∃ l x, sizesOf ps = l ++ [x] ∧ (sizesOf ps).getD (ps.length - 1) (0, 0, 0) = x := by
  have e : ps[ps.length - 1]? = some ps[ps.length - 1] := List.getElem?_eq_getElem (by omega)
  have q := sizes_take e
  rw [show ps.length - 1 + 1 = ps.length by omega, List.take_length] at q
  refine ⟨_, _, q, ?_⟩
  rw [q, List.getD_eq_getElem?_getD, List.getElem?_append_right (by rw [sizesOf_len, List.length_take]; omega), sizesOf_len, List.length_take, show ps.length - 1 - min (ps.length - 1) ps.length = 0 by omega]
  rfl
theorem okProg_eq {ps : List Part} {x : M3} (e : (sizesOf ps).getD (ps.length - 1) (0, 0, 0) = x) : (decide ((x.1 : Int) ≤ 1024) && (decide ((x.2.1 : Int) ≤ 32) && decide ((x.2.2 : Int) ≤ 4294967296))) = okProg ps := by
  unfold okProg
  rw [e, Bool.eq_iff_iff]
  simp only [Bool.and_eq_true, decide_eq_true_eq]
  omega
end My
namespace My
open Kp120 (Kind Cache)
open Kp121 (Part How Tree Going Caches)
/-! ### caches, set by set -/
def CacheOk (k : Kind) (c : Cache) : Prop := c.Nodup ∧ ∀ s, (Kp120.ofSet k c s).length ≤ k.ways
theorem filter_take_nodup {L : List Nat} (nd : L.Nodup) (n : Nat) : L.filter (fun x => (L.take n).contains x) = L.take n := by
  have e : L = L.take n ++ L.drop n := (List.take_append_drop n L).symm
  have nd2 : (L.take n ++ L.drop n).Nodup := e ▸ nd
  have dj := (List.nodup_append.mp nd2).2.2
  have h1 : (L.take n).filter (fun x => (L.take n).contains x) = L.take n := List.filter_eq_self.mpr fun x hx => by simpa using hx
  have h2 : (L.drop n).filter (fun x => (L.take n).contains x) = [] := List.filter_eq_nil_iff.mpr fun x hx hc => by
    have hc' : x ∈ L.take n := by simpa using hc
    exact dj x hc' x hx rfl
  calc L.filter (fun x => (L.take n).contains x) = (L.take n ++ L.drop n).filter (fun x => (L.take n).contains x) := by rw [← e]
    _ = L.take n := by rw [List.filter_append, h1, h2, List.append_nil]
theorem ofSet_trim {k : Kind} {c : Cache} (nd : c.Nodup) (s s' : Nat) : Kp120.ofSet k (Kp120.trim k c s) s' = if s' = s then (Kp120.ofSet k c s).take k.ways else Kp120.ofSet k c s' := by
  have ndS : (Kp120.ofSet k c s).Nodup := nd.sublist List.filter_sublist
  by_cases h : s' = s
  · subst h
    rw [if_pos rfl]
    have q := filter_take_nodup ndS k.ways
    rw [← q]
    show List.filter _ (List.filter _ c) = List.filter _ (List.filter _ c)
    rw [List.filter_filter, List.filter_filter]
    refine List.filter_congr fun x _ => ?_
    show (Kp120.setOf k x == s' && (Kp120.setOf k x != s' || ((Kp120.ofSet k c s').take k.ways).contains x)) = ((List.take k.ways (Kp120.ofSet k c s')).contains x && (Kp120.setOf k x == s'))
    by_cases e : Kp120.setOf k x = s'
    · simp [e]
    · have e' : (Kp120.setOf k x == s') = false := by simpa using e
      rw [e']
      simp
  · rw [if_neg h]
    show List.filter _ (List.filter _ c) = List.filter _ c
    rw [List.filter_filter]
    refine List.filter_congr fun x _ => ?_
    by_cases e : Kp120.setOf k x = s'
    · have : Kp120.setOf k x ≠ s := fun z => h (e.symm.trans z)
      simp [e, h]
    · simp [e]
theorem nodup_use0 {c : Cache} (nd : c.Nodup) (l : Nat) : (l :: c.filter (· != l)).Nodup := by
  refine List.nodup_cons.mpr ⟨fun h => ?_, nd.sublist List.filter_sublist⟩
  have := (List.mem_filter.mp h).2
  simp at this
theorem ofSet_use {k : Kind} {c : Cache} (nd : c.Nodup) (l s : Nat) : Kp120.ofSet k (Kp120.use k c l) s = if s = Kp120.setOf k l then (l :: (Kp120.ofSet k c s).filter (· != l)).take k.ways else Kp120.ofSet k c s := by
  unfold Kp120.use
  rw [ofSet_trim (nodup_use0 nd l)]
  by_cases h : s = Kp120.setOf k l
  · rw [if_pos h, if_pos h]
    subst h
    congr 1
    show List.filter _ (l :: _) = _
    rw [List.filter_cons_of_pos (by simp)]
    congr 1
    show List.filter _ (List.filter _ c) = List.filter _ (List.filter _ c)
    rw [List.filter_filter, List.filter_filter]
    refine List.filter_congr fun x _ => ?_
    exact Bool.and_comm _ _
  · rw [if_neg h, if_neg h]
    show List.filter _ (l :: _) = List.filter _ c
    rw [List.filter_cons_of_neg (by simpa using fun z => h z.symm), List.filter_filter]
    refine List.filter_congr fun x _ => ?_
    by_cases e : Kp120.setOf k x = s
    · have : x ≠ l := fun z => h (by rw [← e, z])
      simp [e, this]
    · simp [e]
theorem cacheOk_use {k : Kind} {c : Cache} (h : CacheOk k c) (l : Nat) : CacheOk k (Kp120.use k c l) := by
  refine ⟨(nodup_use0 h.1 l).sublist List.filter_sublist, fun s => ?_⟩
  rw [ofSet_use h.1]
  split
  · rw [List.length_take]; omega
  · exact h.2 s
theorem cacheOk_nil (k : Kind) : CacheOk k [] := ⟨List.nodup_nil, fun s => Nat.zero_le _⟩
/-- what the program makes of a set's lines -/
def newSet (ls : List Nat) (l ways : Nat) : List Nat := l :: (if ls.contains l = true then ls.erase l else if ls.length = ways then ls.dropLast else ls)
theorem newSet_eq {ls : List Nat} {l ways : Nat} (nd : ls.Nodup) (hl : ls.length ≤ ways) (h1 : 1 ≤ ways) : newSet ls l ways = (l :: ls.filter (· != l)).take ways := by
  unfold newSet
  obtain ⟨w, rfl⟩ : ∃ w, ways = w + 1 := ⟨ways - 1, by omega⟩
  rw [List.take_succ_cons]
  congr 1
  by_cases h : l ∈ ls
  · rw [if_pos (by simpa using h), nd.erase_eq_filter]
    have hlen : (ls.filter (· != l)).length < ls.length := List.length_filter_lt_length_iff_exists.mpr ⟨l, h, by simp⟩
    rw [List.take_of_length_le (by omega)]
  · have e : ls.filter (· != l) = ls := List.filter_eq_self.mpr fun x hx => by
      have : x ≠ l := fun z => h (z ▸ hx)
      simpa using this
    rw [if_neg (by simpa using h), e]
    by_cases hw : ls.length = w + 1
    · rw [if_pos hw, List.dropLast_eq_take, hw]
      rfl
    · rw [if_neg hw, List.take_of_length_le (by omega)]
theorem newSet_use {k : Kind} {c : Cache} (h : CacheOk k c) (h1 : 1 ≤ k.ways) (l : Nat) : newSet (Kp120.ofSet k c (Kp120.setOf k l)) l k.ways = Kp120.ofSet k (Kp120.use k c l) (Kp120.setOf k l) := by
  rw [ofSet_use h.1, if_pos rfl]
  exact newSet_eq (h.1.sublist List.filter_sublist) (h.2 _) h1
theorem hit_set (k : Kind) (c : Cache) (l : Nat) : Kp120.hit c l = (Kp120.ofSet k c (Kp120.setOf k l)).contains l := by
  unfold Kp120.hit Kp120.ofSet
  rw [Bool.eq_iff_iff]
  simp
/-! ### the sets of a cache as a list -/
def setsL (k : Kind) (c : Cache) : List (List Nat) := (List.range k.sets).map fun s => Kp120.ofSet k c s
theorem setsL_len (k : Kind) (c : Cache) : (setsL k c).length = k.sets := by simp [setsL]
theorem setsL_get (k : Kind) (c : Cache) {s : Nat} (h : s < k.sets) : (setsL k c)[s]? = some (Kp120.ofSet k c s) := by simp [setsL, h]
theorem setsL_use {k : Kind} {c : Cache} (h : CacheOk k c) (h1 : 1 ≤ k.ways) (l : Nat) : setsL k (Kp120.use k c l) = (setsL k c).set (Kp120.setOf k l) (newSet (Kp120.ofSet k c (Kp120.setOf k l)) l k.ways) := by
  refine List.ext_getElem? fun s => ?_
  by_cases hs : s < k.sets
  · rw [setsL_get k _ hs]
    by_cases e : Kp120.setOf k l = s
    · rw [List.getElem?_set, if_pos e, if_pos (by rw [setsL_len, e]; exact hs), newSet_use h h1, e]
    · rw [List.getElem?_set_ne e, setsL_get k _ hs, ofSet_use h.1, if_neg (Ne.symm e)]
  · rw [List.getElem?_eq_none (by rw [setsL_len]; omega), List.getElem?_eq_none (by rw [List.length_set, setsL_len]; omega)]
theorem setsL_nil (k : Kind) : setsL k [] = List.replicate k.sets [] := by
  refine List.ext_getElem? fun s => ?_
  by_cases hs : s < k.sets
  · rw [setsL_get k _ hs, List.getElem?_replicate, if_pos hs]; rfl
  · rw [List.getElem?_eq_none (by rw [setsL_len]; omega), List.getElem?_eq_none (by rw [List.length_replicate]; omega)]
/-! ### trees -/
def Tr (h : How) (i : Nat) : Tree := Kp121.treeOf h (i + 1) i
section
variable {h : How} {n : Nat}
theorem treeOf_some {f i : Nat} {p : Part} (e : h.part[i]? = some p) : Kp121.treeOf h (f + 1) i = (if p.kind = 0 then .step p.a p.b (if p.d < p.c then none else some (p.c, p.d)) else if p.kind = 1 then .both (Kp121.treeOf h f p.a) (Kp121.treeOf h f p.b) else
    if p.kind = 2 then .either (Kp121.treeOf h f p.a) (Kp121.treeOf h f p.b) else .again (Kp121.treeOf h f p.a) p.b) := by
  rw [Kp121.treeOf, e]
theorem treeOf_stable (hg : ∀ i p, i < n → h.part[i]? = some p → canMeas i p) (i : Nat) : i < n → ∀ f, i < f → Kp121.treeOf h f i = Tr h i := by
  induction i using Nat.strongRecOn with
  | ind i ih =>
    intro hn f hf
    obtain ⟨f, rfl⟩ : ∃ f', f = f' + 1 := ⟨f - 1, by omega⟩
    unfold Tr
    cases e : h.part[i]? with
    | none => rw [Kp121.treeOf, Kp121.treeOf, e]
    | some p =>
      rw [treeOf_some e, treeOf_some e]
      have hc := hg i p hn e
      by_cases h0 : p.kind = 0
      · rw [if_pos h0, if_pos h0]
      · have ha : p.a < i := by
          rcases hc with z | z | z
          · exact absurd z h0
          · exact z.2.1
          · exact z.2.1
        have ea : Kp121.treeOf h f p.a = Kp121.treeOf h i p.a := (ih p.a ha (by omega) f (by omega)).trans (ih p.a ha (by omega) i ha).symm
        rw [ea]
        by_cases h3 : p.kind = 3
        · rw [if_neg h0, if_neg h0, if_neg (by omega), if_neg (by omega), if_neg (by omega), if_neg (by omega)]
        · have hb : p.b < i := by
            rcases hc with z | z | z
            · exact absurd z h0
            · exact absurd z.1 h3
            · exact z.2.2
          have eb : Kp121.treeOf h f p.b = Kp121.treeOf h i p.b := (ih p.b hb (by omega) f (by omega)).trans (ih p.b hb (by omega) i hb).symm
          rw [eb]
theorem tr_step {i : Nat} {p : Part} (e : h.part[i]? = some p) (hk : p.kind = 0) : Tr h i = .step p.a p.b (if p.d < p.c then none else some (p.c, p.d)) := by
  unfold Tr
  rw [treeOf_some e, if_pos hk]
theorem tr_both (hg : ∀ i p, i < n → h.part[i]? = some p → canMeas i p) {i : Nat} {p : Part} (hi : i < n) (e : h.part[i]? = some p) (hk : p.kind = 1) : p.a < i ∧ p.b < i ∧ Tr h i = .both (Tr h p.a) (Tr h p.b) := by
  have hc : p.a < i ∧ p.b < i := by
    rcases hg i p hi e with z | z | z
    · omega
    · omega
    · exact z.2
  refine ⟨hc.1, hc.2, ?_⟩
  rw [← treeOf_stable hg p.a (by omega) i hc.1, ← treeOf_stable hg p.b (by omega) i hc.2]
  unfold Tr
  rw [treeOf_some e, if_neg (by omega), if_pos hk]
theorem tr_either (hg : ∀ i p, i < n → h.part[i]? = some p → canMeas i p) {i : Nat} {p : Part} (hi : i < n) (e : h.part[i]? = some p) (hk : p.kind = 2) : p.a < i ∧ p.b < i ∧ Tr h i = .either (Tr h p.a) (Tr h p.b) := by
  have hc : p.a < i ∧ p.b < i := by
    rcases hg i p hi e with z | z | z
    · omega
    · omega
    · exact z.2
  refine ⟨hc.1, hc.2, ?_⟩
  rw [← treeOf_stable hg p.a (by omega) i hc.1, ← treeOf_stable hg p.b (by omega) i hc.2]
  unfold Tr
  rw [treeOf_some e, if_neg (by omega), if_neg (by omega), if_pos hk]
theorem tr_again (hg : ∀ i p, i < n → h.part[i]? = some p → canMeas i p) {i : Nat} {p : Part} (hi : i < n) (e : h.part[i]? = some p) (hk : p.kind = 3) : p.a < i ∧ Tr h i = .again (Tr h p.a) p.b := by
  have hc : p.a < i := by
    rcases hg i p hi e with z | z | z
    · omega
    · exact z.2.1
    · exact z.2.1
  refine ⟨hc, ?_⟩
  rw [← treeOf_stable hg p.a (by omega) i hc]
  unfold Tr
  rw [treeOf_some e, if_neg (by omega), if_neg (by omega), if_neg (by omega)]
end
/-! ### what takes a choice -/
def cho : Tree → Bool
  | .step _ _ none => false
  | .step _ _ (some _) => true
  | .both p q => cho p || cho q
  | .either _ _ => true
  | .again _ _ => true
section
variable {h : How}
theorem nochoice : ∀ (t : Tree), cho t = false → ∀ g, ∃ g', Kp121.goes h t g = some g' ∧ g'.left_ = g.left_ ∧ g.steps ≤ g'.steps
  | .step a t none, _, g => ⟨_, rfl, rfl, Nat.le_succ _⟩
  | .step a t (some _), e, g => by cases e
  | .both p q, e, g => by
    have e' : cho p = false ∧ cho q = false := by simpa [cho] using e
    obtain ⟨g1, h1, l1, s1⟩ := nochoice p e'.1 g
    obtain ⟨g2, h2, l2, s2⟩ := nochoice q e'.2 g1
    refine ⟨g2, ?_, l2.trans l1, Nat.le_trans s1 s2⟩
    show (Kp121.goes h p g).bind (Kp121.goes h q) = _
    rw [h1]
    exact h2
  | .either _ _, e, g => by cases e
  | .again _ _, e, g => by cases e
theorem notimes {t : Tree} (e : cho t = false) : ∀ (n : Nat) (g : Going), ∃ g', Kp121.times (Kp121.goes h t) n g = some g' ∧ g'.left_ = g.left_ ∧ g.steps ≤ g'.steps
  | 0, g => ⟨g, rfl, rfl, Nat.le_refl _⟩
  | n + 1, g => by
    obtain ⟨g1, h1, l1, s1⟩ := nochoice (h := h) t e g
    obtain ⟨g2, h2, l2, s2⟩ := notimes e n g1
    refine ⟨g2, ?_, l2.trans l1, Nat.le_trans s1 s2⟩
    show (Kp121.goes h t g).bind (Kp121.times (Kp121.goes h t) n) = _
    rw [h1]
    exact h2
end
/-! ### the program's state against the specification's: alike while not too many steps were made -/
structure Rel (S g : Going) : Prop where
  left : S.left_ = g.left_
  same : g.steps ≤ 65536 → S = g
  many : 65536 < g.steps → 65536 < S.steps
theorem Rel.refl (g : Going) : Rel g g := ⟨rfl, fun _ => rfl, fun h => h⟩
theorem Rel.skip {S g g' : Going} (r : Rel S g) (m : 65536 < S.steps) (l : g'.left_ = g.left_) (s : g.steps ≤ g'.steps) : Rel S g' := by
  have : 65536 < g.steps := by
    by_cases z : g.steps ≤ 65536
    · rw [r.same z] at m; omega
    · omega
  exact ⟨r.left.trans l.symm, fun z => by omega, fun _ => m⟩
theorem Rel.take {S g : Going} (r : Rel S g) (l : List Nat) : Rel { S with left_ := l } { g with left_ := l } :=
  ⟨rfl, fun z => by rw [r.same z], fun z => r.many z⟩
/-- a step of the program, and of the specification -/
theorem Rel.step {h : How} {S g : Going} {a t : Nat} {x : Option (Nat × Nat)} (r : Rel S g) :
    (Kp121.goes h (.step a t x) S = none ∧ Kp121.goes h (.step a t x) g = none) ∨ ∃ S' g', Kp121.goes h (.step a t x) S = some S' ∧ Kp121.goes h (.step a t x) g = some g' ∧ Rel S' g' := by
  have fin : ∀ {S' g' : Going}, S'.left_ = g'.left_ → S'.steps = S.steps + 1 → g'.steps = g.steps + 1 → (S = g → S' = g') → Rel S' g' := fun {S' g'} hl hs hg he => by
    refine ⟨hl, fun z => he (r.same (by omega)), fun z => ?_⟩
    by_cases z2 : g.steps ≤ 65536
    · have := congrArg Going.steps (r.same z2)
      omega
    · have := r.many (by omega)
      omega
  match x with
  | none => exact .inr ⟨_, _, rfl, rfl, fin r.left rfl rfl fun e => by rw [e]⟩
  | some (f, l) =>
    show (((match S.left_ with | [] => none | k :: q => if l < f + k then none else some _) = none) ∧ ((match g.left_ with | [] => none | k :: q => if l < f + k then none else some _) = none)) ∨ ∃ S' g', ((match S.left_ with | [] => none | k :: q => if l < f + k then none else some _) = some S') ∧ ((match g.left_ with | [] => none | k :: q => if l < f + k then none else some _) = some g') ∧ _
    rw [← r.left]
    cases e : S.left_ with
    | nil => exact .inl ⟨rfl, rfl⟩
    | cons k q =>
      by_cases z : l < f + k
      · simp only [if_pos z]; exact .inl ⟨trivial, trivial⟩
      · simp only [if_neg z]
        exact .inr ⟨_, _, rfl, rfl, fin rfl rfl rfl fun e => by rw [e]⟩
/-! ### how deep -/
theorem sizes_prefix (ps qs : List Part) : ∃ l, sizesOf (ps ++ qs) = sizesOf ps ++ l := by
  have key : ∀ (qs : List Part) (l : List M3), ∃ r, qs.foldl (fun l p => l ++ [meas l p]) l = l ++ r := by
    intro qs
    induction qs with
    | nil => intro l; exact ⟨[], by simp⟩
    | cons q r ih =>
      intro l
      obtain ⟨z, e⟩ := ih (l ++ [meas l q])
      exact ⟨[meas l q] ++ z, by rw [List.foldl_cons, e, List.append_assoc]⟩
  unfold sizesOf
  rw [List.foldl_append]
  exact key qs _
def dep (ps : List Part) (i : Nat) : Nat := ((sizesOf ps).getD i (0, 0, 0)).2.1
theorem sizes_at {ps : List Part} {i : Nat} {p : Part} (e : ps[i]? = some p) : (sizesOf ps)[i]? = some (meas (sizesOf (ps.take i)) p) := by
  have hi : i < ps.length := (List.getElem?_eq_some_iff.mp e).1
  obtain ⟨l, q⟩ := sizes_prefix (ps.take (i + 1)) (ps.drop (i + 1))
  rw [List.take_append_drop] at q
  have hl : (sizesOf (ps.take i)).length = i := by rw [sizesOf_len, List.length_take]; omega
  rw [q, sizes_take e, List.append_assoc, List.getElem?_append_right (by omega), hl]
  simp
theorem sizes_lt {ps : List Part} {i j : Nat} (hi : i ≤ ps.length) (hj : j < i) : (sizesOf (ps.take i))[j]? = (sizesOf ps)[j]? := by
  obtain ⟨l, q⟩ := sizes_prefix (ps.take i) (ps.drop i)
  rw [List.take_append_drop] at q
  rw [q, List.getElem?_append_left (by rw [sizesOf_len, List.length_take]; omega)]
theorem dep_pos {ps : List Part} {i : Nat} {p : Part} (e : ps[i]? = some p) : 1 ≤ dep ps i := by
  unfold dep
  rw [getD_of (sizes_at e)]
  unfold meas
  split
  · exact Nat.le_refl _
  · split
    · exact Nat.le_add_left _ _
    · exact Nat.le_add_left _ _
theorem dep_getD {ps : List Part} {i j : Nat} (hi : i ≤ ps.length) (hj : j < i) : ((sizesOf (ps.take i)).getD j (0, 0, 0)).2.1 = dep ps j := by
  unfold dep
  rw [List.getD_eq_getElem?_getD, List.getD_eq_getElem?_getD, sizes_lt hi hj]
theorem dep_loop {ps : List Part} {i : Nat} {p : Part} (e : ps[i]? = some p) (hk : p.kind = 3) (ha : p.a < i) : dep ps i = dep ps p.a + 1 := by
  have hi : i < ps.length := (List.getElem?_eq_some_iff.mp e).1
  show ((sizesOf ps).getD i (0, 0, 0)).2.1 = _
  rw [getD_of (sizes_at e)]
  unfold meas
  rw [if_neg (by omega), if_pos hk]
  show ((sizesOf (ps.take i)).getD p.a (0, 0, 0)).2.1 + 1 = _
  rw [dep_getD (by omega) ha]
theorem dep_two {ps : List Part} {i : Nat} {p : Part} (e : ps[i]? = some p) (hk : p.kind = 1 ∨ p.kind = 2) (ha : p.a < i) (hb : p.b < i) : dep ps p.a < dep ps i ∧ dep ps p.b < dep ps i := by
  have hi : i < ps.length := (List.getElem?_eq_some_iff.mp e).1
  have q : dep ps i = max (dep ps p.a) (dep ps p.b) + 1 := by
    show ((sizesOf ps).getD i (0, 0, 0)).2.1 = _
    rw [getD_of (sizes_at e)]
    unfold meas
    rw [if_neg (by omega), if_neg (by omega)]
    show max ((sizesOf (ps.take i)).getD p.a (0, 0, 0)).2.1 ((sizesOf (ps.take i)).getD p.b (0, 0, 0)).2.1 + 1 = _
    rw [dep_getD (by omega) ha, dep_getD (by omega) hb]
  rw [q]
  omega
/-! ### of each part whether it takes a choice, as the program asks it -/
def chP (p : Part) (bs : List Bool) : Bool := if p.kind = 0 then decide (p.c ≤ p.d) else if p.kind = 1 then bs.getD p.a false || bs.getD p.b false else true
def choL (ps : List Part) : List Bool := ps.foldl (fun bs p => bs ++ [chP p bs]) []
theorem choL_take {ps : List Part} {i : Nat} {p : Part} (e : ps[i]? = some p) : choL (ps.take (i + 1)) = choL (ps.take i) ++ [chP p (choL (ps.take i))] := by
  have e2 : ps.take (i + 1) = ps.take i ++ [p] := by
    rw [List.take_add_one, e]
    rfl
  rw [e2]
  unfold choL
  rw [List.foldl_append]
  rfl
theorem choL_eq {h : How} {ps : List Part} (hp : ∀ i, i < ps.length → h.part[i]? = ps[i]?) (hc : ∀ (i : Nat) (p : Part), ps[i]? = some p → canMeas i p) : ∀ n, n ≤ ps.length → choL (ps.take n) = (List.range n).map (fun j => cho (Tr h j)) := by
  have hg : ∀ i p, i < ps.length → h.part[i]? = some p → canMeas i p := fun i p hi e => hc i p (by rw [← hp i hi]; exact e)
  intro n
  induction n with
  | zero => intro _; rfl
  | succ n ih =>
    intro hn
    have e : ps[n]? = some ps[n] := List.getElem?_eq_getElem (by omega)
    have eh : h.part[n]? = some ps[n] := (hp n (by omega)).trans e
    have getD_at : ∀ j, j < n → ((List.range n).map (fun j => cho (Tr h j))).getD j false = cho (Tr h j) := fun j hj => getD_of (by simp [hj])
    rw [choL_take e, ih (by omega), List.range_succ, List.map_append]
    congr 1
    show [chP ps[n] _] = [cho (Tr h n)]
    congr 1
    unfold chP
    by_cases h0 : ps[n].kind = 0
    · rw [if_pos h0, tr_step eh h0]
      by_cases hd : ps[n].d < ps[n].c
      · rw [if_pos hd, decide_eq_false (by omega)]
        rfl
      · rw [if_neg hd, decide_eq_true (by omega)]
        rfl
    · rw [if_neg h0]
      by_cases h1 : ps[n].kind = 1
      · obtain ⟨ha, hb, et⟩ := tr_both hg (by omega) eh h1
        rw [if_pos h1, et, getD_at _ ha, getD_at _ hb]
        rfl
      · rw [if_neg h1]
        by_cases h2 : ps[n].kind = 2
        · obtain ⟨_, _, et⟩ := tr_either hg (by omega) eh h2
          rw [et]
          rfl
        · have h3 : ps[n].kind = 3 := by
            rcases hc n _ e with z | z | z
            · exact absurd z h0
            · exact z.1
            · omega
          obtain ⟨_, et⟩ := tr_again hg (by omega) eh h3
          rw [et]
          rfl
theorem choL_len (ps : List Part) : (choL ps).length = ps.length := by
  have h : ∀ (ps : List Part) (l : List Bool), (ps.foldl (fun bs p => bs ++ [chP p bs]) l).length = l.length + ps.length := by
    intro ps
    induction ps with
    | nil => intro l; rfl
    | cons p r ih =>
      intro l
      rw [List.foldl_cons, ih, List.length_append, List.length_cons]
      simp
      omega
  have := h ps []
  simpa [choL] using this
theorem choL_get {h : How} {ps : List Part} (hp : ∀ i, i < ps.length → h.part[i]? = ps[i]?) (hc : ∀ (i : Nat) (p : Part), ps[i]? = some p → canMeas i p) {i : Nat} (hi : i < ps.length) : (choL ps)[i]? = some (cho (Tr h i)) := by
  have q := choL_eq hp hc ps.length (Nat.le_refl _)
  rw [List.take_length] at q
  rw [q]
  simp [hi]
/-! ### good kinds -/
theorem gk_of {k : Kind} (h : Kp120.goodKind k = true) : 1 ≤ k.sets ∧ k.sets ≤ 16 ∧ 1 ≤ k.ways ∧ k.ways ≤ 8 := by
  unfold Kp120.goodKind at h
  simp only [Bool.and_eq_true, decide_eq_true_eq, List.contains_cons, List.contains_nil, Bool.or_eq_true, beq_iff_eq, Bool.false_eq_true, or_false] at h
  omega
/-! ### what is answered -/
def runAns (code data : Kind) (cm dm no : Nat) (ps : List Part) (l : List Nat) : Int :=
  if okHow code data cm dm no ps = true then (match Kp121.goes (howOf code data cm dm no ps) (Tr (howOf code data cm dm no ps) (ps.length - 1)) ⟨l, Kp121.empty, 0, 0⟩ with
    | none => -2
    | some g => if g.left_ ≠ [] then -2 else if 65536 < g.steps then -28 else (g.time : Nat)) else -22
theorem okParts_of {code data : Kind} {cm dm no : Nat} {ps : List Part} (h : okHow code data cm dm no ps = true) : (1 ≤ ps.length ∧ ps.length ≤ 64) ∧ (∀ (i : Nat) (p : Part), ps[i]? = some p → goodP data i p = true) ∧ dep ps (ps.length - 1) ≤ 32 ∧ Kp120.goodKind code = true ∧ Kp120.goodKind data = true := by
  unfold okHow at h
  split at h
  · rename_i hk
    split at h
    · split at h
      · rename_i hp
        unfold okParts at hp
        split at hp
        · rename_i hl
          refine ⟨hl, fun i p e => bs_get hp e, ?_, hk⟩
          unfold okProg at h
          simp only [Bool.and_eq_true, decide_eq_true_eq] at h
          exact h.1.2
        · cases hp
      · cases h
    · cases h
  · cases h
theorem program_tr {code data : Kind} {cm dm no : Nat} {ps : List Part} (h : 1 ≤ ps.length) : Kp121.program (howOf code data cm dm no ps) = Tr (howOf code data cm dm no ps) (ps.length - 1) := by
  show Kp121.treeOf _ ps.length (ps.length - 1) = Kp121.treeOf _ (ps.length - 1 + 1) (ps.length - 1)
  rw [show ps.length - 1 + 1 = ps.length by omega]
theorem tt_run_eq {a0 a1 a2 a3 b0 b1 b2 b3 m n o : Int} {r q : List Int} (h : r.length % 5 = 0) : PyKp121.tt_run a0 a1 a2 a3 b0 b1 b2 b3 m n o r q =
    [0, runAns ⟨a0.toNat, a1.toNat, a2.toNat, a3.toNat⟩ ⟨b0.toNat, b1.toNat, b2.toNat, b3.toNat⟩ m.toNat n.toNat o.toNat (partsOf r) (q.map Int.toNat)] := by
  show [0, Kp121.answer (.run (Kp121Neutral.how [a0, a1, a2, a3, b0, b1, b2, b3, m, n, o] r) (q.map Int.toNat))] = _
  rw [how_eq h]
  generalize hps : partsOf r = ps
  show [0, if Kp121.right _ = false then (-22 : Int) else _] = _
  unfold runAns
  rw [right_eq]
  cases e : okHow ⟨a0.toNat, a1.toNat, a2.toNat, a3.toNat⟩ ⟨b0.toNat, b1.toNat, b2.toNat, b3.toNat⟩ m.toNat n.toNat o.toNat ps with
  | false => rfl
  | true =>
    rw [program_tr (okParts_of e).1.1]
    rfl
end My
/-! WORDS OF MY OWN over the layer: values without the heap's change, bundles for defs and classes. -/
namespace My
open PySem PySem.Spec PyProof.Rows L2
section
variable {X : Cx}

/-! ### an expression that only reads: its value -/
def Val (t : TE) (σ : L2.St) (H : Hp) (v : V) : Prop := ∀ Q : VK, Q v H → t σ H Q
def ValT (t : TT) (σ : L2.St) (H : Hp) (b : Bool) : Prop := ∀ Q : Bool → Hp → Prop, Q b H → t σ H Q
def ValA (t : TA) (σ : L2.St) (H : Hp) (vs : List V) : Prop := ∀ Q : List V → Hp → Prop, Q vs H → t σ H Q
section
variable {t ta tb tc : TE} {tt tA tB2 : TT} {tr : TA} {σ : L2.St} {H : Hp} {v x y : V} {vs : List V} {i j k : Int} {K : PySem.W.Frag}
theorem val_eq {v' : V} (h : Val t σ H v) (e : v = v') : Val t σ H v' := e ▸ h
theorem valT_eq {b b' : Bool} (h : ValT tt σ H b) (e : b = b') : ValT tt σ H b' := e ▸ h
theorem val_var {n : Nat} (e : σ[n]? = some (some v)) : Val (tVar n) σ H v := fun _ q => ⟨v, e, q⟩
theorem val_c : Val (tC v) σ H v := fun _ q => q
theorem val_fld {a C dx : Addr} {fs : List (Str × V)} {f : Str} (h : Val ta σ H (.ref a)) (hp : H a = some (.ins C dx fs)) (c : Cls K C) (n : NoAttr K C f) (l : fs.lookup f = some v) : Val (tFld K ta f) σ H v :=
  fun _ q => h _ ⟨a, C, dx, fs, v, rfl, hp, c, n, l, q⟩
theorem val_I0 {g : Int → Int → V} (h1 : Val ta σ H (.int i)) (h2 : Val tb σ H (.int j)) : Val (tOp (rI0 g) ta tb) σ H (g i j) := fun _ q => h1 _ (h2 _ ⟨i, j, rfl, rfl, q⟩)
theorem val_I {C : Int → Int → Prop} {g : Int → Int → V} (h1 : Val ta σ H (.int i)) (h2 : Val tb σ H (.int j)) (hc : C i j) : Val (tOp (rI C g) ta tb) σ H (g i j) := fun _ q => h1 _ (h2 _ ⟨i, j, rfl, rfl, hc, q⟩)
theorem val_U {g : Int → V} (h1 : Val ta σ H (.int i)) : Val (tUn (rU g) ta) σ H (g i) := fun _ q => h1 _ ⟨i, rfl, q⟩
theorem dec_VI (i j : Int) : decide (V.int i = V.int j) = decide (i = j) := by
  by_cases h : i = j
  · rw [h]; simp
  · rw [decide_eq_false h, decide_eq_false (fun e => h (V.int.inj e))]
theorem val_eqI (h1 : Val ta σ H (.int i)) (h2 : Val tb σ H (.int j)) : Val (tOp rEq ta tb) σ H (.bl (decide (i = j))) := fun Q q => h1 _ (h2 _ ⟨rfl, by rw [dec_VI]; exact q⟩)
theorem val_neI (h1 : Val ta σ H (.int i)) (h2 : Val tb σ H (.int j)) : Val (tOp rNe ta tb) σ H (.bl (!decide (i = j))) := fun Q q => h1 _ (h2 _ ⟨rfl, by rw [dec_VI]; exact q⟩)
theorem val_ix {p : Addr} {xs : List V} (h1 : Val ta σ H (.ref p)) (h2 : Val tb σ H (.int i)) (hs : SqL K H p xs) (e : atI xs i = some v) : Val (tOp (rIxL K) ta tb) σ H v :=
  fun _ q => h1 _ (h2 _ ⟨p, xs, i, v, rfl, rfl, hs, e, q⟩)
theorem val_inT {p : Addr} {xs : List V} (h1 : Val ta σ H x) (h2 : Val tb σ H (.ref p)) (hs : SqT K H p xs) (fx : flatV x = true) (fs : xs.all flatV = true) : Val (tOp (rIn K false) ta tb) σ H (.bl (inV x xs)) :=
  fun _ q => h1 _ (h2 _ ⟨p, xs, rfl, .inr hs, fx, fs, q⟩)
theorem val_inL {p : Addr} {xs : List V} (h1 : Val ta σ H x) (h2 : Val tb σ H (.ref p)) (hs : SqL K H p xs) (fx : flatV x = true) (fs : xs.all flatV = true) : Val (tOp (rIn K false) ta tb) σ H (.bl (inV x xs)) :=
  fun _ q => h1 _ (h2 _ ⟨p, xs, rfl, .inl hs, fx, fs, q⟩)
theorem val_chain {p p' : Int → Int → Bool} (h1 : Val ta σ H (.int i)) (h2 : Val tb σ H (.int j)) (h3 : Val tc σ H (.int k)) : Val (tChain (rI0 fun i j => .bl (p i j)) (rI0 fun i j => .bl (p' i j)) ta tb tc) σ H (.bl (p i j && p' j k)) :=
  fun Q q => h1 _ (h2 _ ⟨i, j, rfl, rfl, p i j, rfl, by
    cases e : p i j with
    | true =>
      rw [if_pos rfl]
      refine h3 _ ⟨j, k, rfl, rfl, ?_⟩
      rw [e] at q
      exact q
    | false =>
      rw [if_neg Bool.false_ne_true]
      rw [e] at q
      exact q⟩)
theorem val_and {a b : Bool} (h1 : Val ta σ H (.bl a)) (h2 : a = true → Val tb σ H (.bl b)) : Val (tAndV ta tb) σ H (.bl (a && b)) := fun Q q => h1 _ ⟨a, rfl, by
  cases a with
  | true => rw [if_pos rfl]; exact h2 rfl _ q
  | false => rw [if_neg Bool.false_ne_true]; exact q⟩
theorem val_or {a b : Bool} (h1 : Val ta σ H (.bl a)) (h2 : a = false → Val tb σ H (.bl b)) : Val (tOrV ta tb) σ H (.bl (a || b)) := fun Q q => h1 _ ⟨a, rfl, by
  cases a with
  | true => rw [if_pos rfl]; exact q
  | false => rw [if_neg Bool.false_ne_true]; exact h2 rfl _ q⟩
theorem val_ife {b : Bool} (h1 : ValT tt σ H b) (h2 : b = true → Val ta σ H x) (h3 : b = false → Val tb σ H y) : Val (tIf tt ta tb) σ H (if b = true then x else y) := fun Q q => h1 _ (by
  cases b with
  | true => rw [if_pos rfl] at q ⊢; exact h2 rfl _ q
  | false => rw [if_neg Bool.false_ne_true] at q ⊢; exact h3 rfl _ q)
theorem vt_test {b : Bool} (h : Val t σ H (.bl b)) : ValT (tTest t) σ H b := fun _ q => h _ ⟨b, rfl, q⟩
theorem vt_b {b : Bool} (h : Val t σ H (.bl b)) : ValT (tB t) σ H b := fun _ q => h _ ⟨b, rfl, q⟩
theorem vt_or {a b : Bool} (h1 : ValT tA σ H a) (h2 : a = false → ValT tB2 σ H b) : ValT (tOr tA tB2) σ H (a || b) := fun Q q => h1 _ (by
  cases a with
  | true => rw [if_pos rfl]; exact q
  | false => rw [if_neg Bool.false_ne_true]; exact h2 rfl _ q)
theorem vt_not {a : Bool} (h1 : ValT tA σ H a) : ValT (tNot tA) σ H (!a) := fun Q q => h1 _ q
theorem va_nil : ValA tNil σ H [] := fun _ q => q
theorem va_cons (h1 : Val t σ H v) (h2 : ValA tr σ H vs) : ValA (tCons t tr) σ H (v :: vs) := fun _ q => h1 _ (h2 _ q)
theorem val_cb {r : List V → Hp → VK → Prop} (h1 : ValA tr σ H vs) (h2 : ∀ Q : VK, Q v H → r vs H Q) : Val (tCB r tr) σ H v := fun _ q => h1 _ (h2 _ q)
end

/-! ### promises -/
/-- a def that only reads: R tells its value -/
def spV (R : List V → Hp → V → Prop) : Sp := fun vs H Q _ => ∃ v, R vs H v ∧ Q v H
/-- a def that may make things: all that was tracked stays -/
def spN (R : List V → Hp → (V → Hp → Prop) → Prop) : Sp := fun vs H Q _ => ∃ Po, R vs H Po ∧ ∀ v H', Same H H' → Po v H' → Q v H'
theorem val_call {tr : TA} {σ : L2.St} {H : Hp} {v : V} {vs : List V} {R : List V → Hp → V → Prop} {E : XK} (h1 : ValA tr σ H vs) (h2 : R vs H v) : Val (tCall (spV R) [] E tr) σ H v :=
  fun _ q => h1 _ ⟨v, by rw [List.append_nil]; exact h2, q⟩

/-! ### a global name -/
def Glob (mg : Str → Option Value) (x : Str) (v : V) : Prop := ∃ u, mg x = some u ∧ RelV v u
theorem pe_gl {x : Str} {v : V} {pos : Pos} (h : Glob X.mg x v) (hg : Gl X x := by rfl) (hd : (x == ("__debug__" : Str)) = false := by decide) : PE X (.Name x pos) (tC v) := by
  obtain ⟨u, h1, h2⟩ := h
  exact pe_glob hg h1 h2 hd
theorem glob_int {K : PySem.W.Frag} {h : Heap} {mg : Str → Option Value} {x : Str} {i : Int} {t : Tok} (XX : K.In h) (G : h.Ns mainGlobals mg) (e : PySem.W.nsIn K mainGlobals x = some (some (.int i t))) : Glob mg x (.int i) := ⟨_, PySem.W.mg_of XX G e, t, rfl⟩
/-! ### a def of the text, by its name -/
/-- the name x is bound to the def st -/
def DefAt (K : PySem.W.Frag) (mg : Str → Option Value) (x : Str) (st : Stmt) : Prop := ∃ f fd, mg x = some (.ref f) ∧ Fun K x x st f fd
theorem defAt_mk {K : PySem.W.Frag} {h : Heap} {mg : Str → Option Value} {x : Str} {st : Stmt} {f : Addr} {oc : Value} {od an : Option Addr} {osl : Array (Option Value)} {kV doc pm cdv ct : Value} (XX : K.In h) (G : h.Ns mainGlobals mg)
    (a : PySem.W.nsIn K mainGlobals x = some (some (.ref f))) (l : K.lookup f = some ⟨oc, od, .func (PySem.W.fnOf x x (defArgs st) (defBody st) (defScope st) .none kV doc pm an cdv ct), osl⟩) (c : PySem.W.codeIn K cdv x = true) (k : PySem.W.keepIn K (.ref f) = true) : DefAt K mg x st :=
  ⟨f, _, PySem.W.mg_of XX G a, fun_mk l c k⟩
/-- .. and keeps the promise sp -/
structure Ok (P : Program) (w : World) (K : PySem.W.Frag) (mg : Str → Option Value) (base : Heap) (k : Nat) (x : Str) (ps : List Str) (sp : Sp) : Prop where
  ex : ∃ f fd, mg x = some (.ref f) ∧ PySem.W.keepIn K (.ref f) = true ∧ Binds K fd ps [] ∧ FnOk P w K mg base CX0 k f fd ps sp ∧ ∃ oc od osl, K.lookup f = some ⟨oc, od, .func fd, osl⟩
/-- for the row's head -/
theorem fin_F {P : Program} {w : World} {K : PySem.W.Frag} {mg : Str → Option Value} {x : Str} {st : Stmt} {fa : Addr} {ps : List Str} {sp : Sp} {k : Nat} (D : DefAt K mg x st) (hmg : mg x = some (.ref fa))
    (hb : ∀ (kV doc pm : Value) (an : Option Addr) (cdv ct : Value) (us : List Value), us.length = ps.length → bindArgs (PySem.W.fnOf x x (defArgs st) (defBody st) (defScope st) .none kV doc pm an cdv ct) ⟨us, []⟩ = pure (ps.zip us))
    (ok : ∀ base : Heap, K.In base → base.Ns mainGlobals mg → Ok P w K mg base k x ps sp) :
    ∃ fd : FuncData, (∀ (s : Shared) (us : List Value), us.length = ps.length → BindsTo s fd ⟨us, []⟩ (ps.zip us)) ∧ ∀ base : Heap, K.In base → base.Ns mainGlobals mg → FnOk P w K mg base CX0 k fa fd ps sp := by
  obtain ⟨f, fd, hm, F⟩ := D
  have e := hmg.symm.trans hm
  cases e
  obtain ⟨oc, od, kV, doc, pm, an, cdv, ct, osl, rfl, lk, hcd⟩ := F.ex
  refine ⟨_, fun s us hl => .of_eq (hb kV doc pm an cdv ct us hl), fun base kb nb => ?_⟩
  obtain ⟨f', fd', h1, _, _, h4, oc', od', osl', lk'⟩ := (ok base kb nb).ex
  have e1 := h1.symm.trans hm
  cases e1
  have e2 := lk'.symm.trans lk
  cases e2
  exact h4
/-! ### the request -/
theorem dw_int {K : PySem.W.Frag} {H : Hp} {xs : List V} {z : Int} {ds : List PySem.W.WData} (h : DwAll K H xs (.int z :: ds)) : ∃ ys, xs = .int z :: ys ∧ DwAll K H ys ds := by
  cases h with
  | cons h1 h2 =>
    cases h1
    exact ⟨_, rfl, h2⟩
theorem dw_list {K : PySem.W.Frag} {H : Hp} {xs : List V} {ns : List Int} {ds : List PySem.W.WData} (h : DwAll K H xs (.list (ns.map PySem.W.WData.int) :: ds)) : ∃ a ys, xs = .ref a :: ys ∧ SqL K H a (ns.map V.int) ∧ DwAll K H ys ds := by
  cases h with
  | cons h1 h2 =>
    cases h1 with
    | lst hs ha =>
      have e := ints_dw ns _ ha
      subst e
      exact ⟨_, _, rfl, hs, h2⟩
theorem dw_nil {K : PySem.W.Frag} {H : Hp} {xs : List V} (h : DwAll K H xs []) : xs = [] := by
  cases h
  rfl
/-- a tuple of five ints at the top -/
theorem tup5_mk {K : PySem.W.Frag} {h : Heap} {mg : Str → Option Value} {x : Str} {a : Addr} {d : Option Addr} {n : Nat} {sl : Array (Option Value)} {i1 i2 i3 i4 i5 : Int} {t1 t2 t3 t4 t5 : Tok} (XX : K.In h) (G : h.Ns mainGlobals mg)
    (e : PySem.W.nsIn K mainGlobals x = some (some (.ref a))) (l : K.lookup a = some ⟨.type "tuple", d, .seq #[.int i1 t1, .int i2 t2, .int i3 t3, .int i4 t4, .int i5 t5] n, sl⟩) :
    ∃ a, Glob mg x (.ref a) ∧ ∀ H, SqT K H a [.int i1, .int i2, .int i3, .int i4, .int i5] :=
  ⟨a, ⟨_, PySem.W.mg_of XX G e, rfl⟩, fun H => .inr ⟨_, _, n, l, rfl, rfl, by show 5 ≤ sizeLine; decide, .cons ⟨_, rfl⟩ (.cons ⟨_, rfl⟩ (.cons ⟨_, rfl⟩ (.cons ⟨_, rfl⟩ (.cons ⟨_, rfl⟩ .nil))))⟩⟩
/-- x(e, ..) -/
theorem pe_fn {k : Nat} {x : Str} {ps : List Str} {sp : Sp} {p pos : Pos} {e : Expr} {es : List Expr} {t : TA} (h : Ok X.prog X.w X.K X.mg X.base k x ps sp) (hr : Room k X.A) (ha : PA X (e :: es) t) (hg : Gl X x := by rfl) (hdb : (x == ("__debug__" : Str)) = false := by decide)
    (he : starEach (e :: es) X.env = (false, eval e X.env) :: starEach es X.env := by rfl) (hpl : (backTo pos (starEach es X.env)).any (·.1) = false := by rfl) : PE X (.Call (.Name x p) (e :: es) [] pos) (tCall sp [] E0 t) := by
  obtain ⟨f, fd, h1, h2, h3, h4, _⟩ := h.ex
  exact pe_call h4 hr hg h1 h2 h3 .nil pass0 ha hdb he hpl

/-! ### a class whose __init__ stores its arguments -/
/-- __init__ stores its arguments under names, in that order -/
def spStore (C : Addr) (names : List Str) : Sp := fun vs H Q _ => ∃ p dx us, vs = .ref p :: us ∧ us.length = names.length ∧ H p = some (.ins C dx []) ∧ Q .non (upd H p (.ins C dx (names.zip us)))
structure ClsAt (K : PySem.W.Frag) (mg : Str → Option Value) (x qual : Str) (st : Stmt) (C : Addr) (names : List Str) : Prop where
  cl : Cls K C
  mgC : mg x = some (.ref C)
  na : ∀ f ∈ names, NoAttr K C f
  ini : ∃ f fd, Mk K C f ∧ Fun K "__init__" qual st f fd
theorem clsAt_mk {K : PySem.W.Frag} {h : Heap} {mg : Str → Option Value} {x qual : Str} {st : Stmt} {names : List Str} {C f : Addr} {oc : Value} {od an : Option Addr} {osl : Array (Option Value)} {kV doc pm cdv ct : Value} (XX : K.In h) (G : h.Ns mainGlobals mg)
    (a : PySem.W.nsIn K mainGlobals x = some (some (.ref C))) (b : PySem.W.findIn K (.ref C) "__init__" = some (some (.ref f))) (i : PySem.W.isFn K (.ref f) = true)
    (l : K.lookup f = some ⟨oc, od, .func (PySem.W.fnOf "__init__" qual (defArgs st) (defBody st) (defScope st) .none kV doc pm an cdv ct), osl⟩) (c : PySem.W.codeIn K cdv qual = true) (k : PySem.W.keepIn K (.ref f) = true)
    (pg : PySem.W.plainGet K C Str.empty = true) (hd : PySem.W.hasDictIn K C = true) (po : PySem.W.plainOver K C = true) (sa : PySem.W.findIn K (.ref C) "__setattr__" = some (some (.builtin "object.__setattr__"))) (mk : PySem.W.makesIn K C = true) (kc : PySem.W.keepIn K (.ref C) = true)
    (na : ∀ f ∈ names, NoAttr K C f) : ClsAt K mg x qual st C names := ⟨⟨pg, hd, po, sa⟩, PySem.W.mg_of XX G a, na, ⟨f, _, ⟨mk, b, i, kc⟩, fun_mk l c k⟩⟩
theorem na_nil {K : PySem.W.Frag} {C : Addr} : ∀ f ∈ ([] : List Str), NoAttr K C f := fun _ h => by cases h
theorem na_cons {K : PySem.W.Frag} {C : Addr} {g : Str} {r : List Str} (h : PySem.W.findIn K (.ref C) g = some none) (hr : ∀ f ∈ r, NoAttr K C f) : ∀ f ∈ g :: r, NoAttr K C f := fun f hf => by
  rcases List.mem_cons.mp hf with e | e
  · rw [e]; exact h
  · exact hr f e
structure OkC (P : Program) (w : World) (K : PySem.W.Frag) (mg : Str → Option Value) (base : Heap) (k : Nat) (x : Str) (C : Addr) (names : List Str) : Prop where
  cl : Cls K C
  mgC : mg x = some (.ref C)
  na : ∀ f ∈ names, NoAttr K C f
  ex : ∃ f fd, Mk K C f ∧ Binds K fd ("self" :: names) [] ∧ FnOk P w K mg base CX0 k f fd ("self" :: names) (spStore C names)
/-- x(e, ..): a new instance that holds the arguments -/
def tNew (C : Addr) (names : List Str) (t : TA) : TE := fun σ H Q => t σ H fun vs H1 => vs.length = names.length ∧ ∀ x dx H2, H1 x = none → Same H1 H2 → H2 x = some (.ins C dx (names.zip vs)) → Q (.ref x) H2
theorem new_reads {C : Addr} {names : List Str} {vs : List V} {H1 : Hp} {Q : VK} (hl : vs.length = names.length) (q : ∀ x dx H2, H1 x = none → Same H1 H2 → H2 x = some (.ins C dx (names.zip vs)) → Q (.ref x) H2) :
    ∀ x dx, H1 x = none → H1 dx = none → dx ≠ x → spStore C names (.ref x :: (vs ++ [])) (upd (upd H1 dx (.own x)) x (.ins C dx [])) (fun v H2 => v = .non ∧ Q (.ref x) H2) E0 := by
  intro x dx nx nd ne
  rw [List.append_nil]
  refine ⟨x, dx, vs, rfl, hl, upd_same, rfl, q x dx _ nx ?_ upd_same⟩
  intro b o e
  rw [upd_ne (ne_of_none e nx), upd_ne (ne_of_none e nx), upd_ne (ne_of_none e nd)]
  exact e
theorem pe_new {k : Nat} {x : Str} {C : Addr} {names : List Str} {p pos : Pos} {e : Expr} {es : List Expr} {t : TA} (h : OkC X.prog X.w X.K X.mg X.base k x C names) (hr : Room (k + 1) X.A) (ha : PA X (e :: es) t) (hg : Gl X x := by rfl) (hdb : (x == ("__debug__" : Str)) = false := by decide)
    (he : starEach (e :: es) X.env = (false, eval e X.env) :: starEach es X.env := by rfl) (hpl : (backTo pos (starEach es X.env)).any (·.1) = false := by rfl) : PE X (.Call (.Name x p) (e :: es) [] pos) (tNew C names t) := by
  intro pins s σ H Q I hq
  obtain ⟨f, fd, M, hb, F⟩ := h.ex
  refine wpAny_Call_Name_kw (ld_glob I hg h.mgC ?_ hdb)
  refine PySem.W.callWith_K (h₀ := X.base) I.ok.mod.kin M.kp (thn (ha pos pins s σ H _ I hq) fun us s1 ⟨vs, H1, I1, r, q⟩ => ⟨I1.kIn, ?_⟩) he hpl
  exact run_make M F hr hb .nil pass0 I1 r (new_reads q.1 q.2)
end

/-! ### comprehensions -/
section
variable {X : Cx}
/-- [elt for x, y in ..] -/
theorem pe_lcXY {elt iter : Expr} {scope : Scope} {own : List (Str × Nat)} {pos p1 p2 tpos : Pos} {kk i j : Nat} {x y : Str} {wi : TI} {te : TE} (hc : X.calm = true) (hN : X.N.Nodup) (hi : PI X (.Tuple [.Name x p1, .Name y p2] kk tpos) iter wi) (ok : BlkOk X.N X.env.scope scope own)
    (hx : X.N[i]? = some x) (hy : X.N[j]? = some y) (lx : scope.names.lookup x = some .local) (ly : scope.names.lookup y = some .local)
    (he : ∀ (s : Shared) (H : Hp) (C : Addr) (cl : List (Str × Addr)) (fp : List Addr), PE (X.blk s H scope (compEnvC scope cl C X.env) fp) elt te) (hs : ∀ z, foldedSetIterable iter X.env z = pure z := by intro _; rfl) :
    PE X (.ListComp elt [⟨.Tuple [.Name x p1, .Name y p2] kk tpos, iter, [], 0⟩] scope pos) (tLc wi (gTup X.K 2 (gCons (gName i) (gCons (gName j) gNil))) tYes te (own.map (·.2))) :=
  pe_lc hc hN hi ok (fun s H C cl fp => pg_tup (X := X.blk s H scope (compEnvC scope cl C X.env) fp) hc (pgs_cons (pg_name hN hx (Or.inl (lookup_relabel_local (env := X.env) lx)) (Or.inr (lookup_relabel_local (env := X.env) lx))) (pgs_cons (pg_name hN hy (Or.inl (lookup_relabel_local (env := X.env) ly)) (Or.inr (lookup_relabel_local (env := X.env) ly))) pgs_nil))) (fun _ _ _ _ _ => pts_nil) he hs
/-- [elt for x in ..] -/
theorem pe_lcX {elt iter : Expr} {scope : Scope} {own : List (Str × Nat)} {pos p1 : Pos} {i : Nat} {x : Str} {wi : TI} {te : TE} (hc : X.calm = true) (hN : X.N.Nodup) (hi : PI X (.Name x p1) iter wi) (ok : BlkOk X.N X.env.scope scope own)
    (hx : X.N[i]? = some x) (lx : scope.names.lookup x = some .local)
    (he : ∀ (s : Shared) (H : Hp) (C : Addr) (cl : List (Str × Addr)) (fp : List Addr), PE (X.blk s H scope (compEnvC scope cl C X.env) fp) elt te) (hs : ∀ z, foldedSetIterable iter X.env z = pure z := by intro _; rfl) :
    PE X (.ListComp elt [⟨.Name x p1, iter, [], 0⟩] scope pos) (tLc wi (gName i) tYes te (own.map (·.2))) :=
  pe_lc hc hN hi ok (fun s H C cl fp => pg_name (X := X.blk s H scope (compEnvC scope cl C X.env) fp) hN hx (Or.inl (lookup_relabel_local (env := X.env) lx)) (Or.inr (lookup_relabel_local (env := X.env) lx))) (fun _ _ _ _ _ => pts_nil) he hs
end

/-! ### small things about heaps -/
theorem Same.upd_new {H H' : Hp} {l : Addr} {o : HO} (s : Same H H') (n : H' l = none) : Same H (upd H' l o) := fun b u e => by
  have e' := s b u e
  rw [upd_ne (ne_of_none e' n)]
  exact e'
theorem Same.upd_old {H H' : Hp} {l : Addr} {o : HO} (s : Same H H') (n : H l = none) : Same H (upd H' l o) := fun b u e => by
  rw [upd_ne (ne_of_none e n)]
  exact s b u e
theorem take_snoc {α : Type} : ∀ {l : List α} {i : Nat} {x : α}, l[i]? = some x → l.take (i + 1) = l.take i ++ [x]
  | [], i, x, h => by simp at h
  | a :: l, 0, x, h => by
    have e : a = x := Option.some.inj h
    subst e
    rfl
  | a :: l, i + 1, x, h => by
    have ih := take_snoc (l := l) (i := i) (x := x) h
    show a :: l.take (i + 1) = a :: l.take i ++ [x]
    rw [ih]
    rfl
/-- a range with a step from 0 -/
theorem rgc_of {n : Nat} {c : Int} (hc : 0 < c) (hc2 : c < 1000) (hn : n < 1000000) : RgC 0 (c * n) c n := by
  have e : Builtin.Range.rangeSize 0 (c * n) c = n := by
    unfold Builtin.Range.rangeSize
    rw [if_pos hc]
    by_cases h : n = 0
    · subst h; simp
    · have h1 : (0 : Int) < c * n := Int.mul_pos hc (by omega)
      rw [if_pos h1]
      have : (c * (n : Int) - 0 - 1) / c = n - 1 := by
        have e1 : c * (n : Int) - 0 - 1 = (c - 1) + c * ((n : Int) - 1) := by rw [Int.mul_sub]; omega
        rw [e1, Int.add_mul_ediv_left _ _ (by omega), Int.ediv_eq_zero_of_lt (by omega) (by omega)]
        omega
      omega
  have hb : c * (n : Int) ≤ 1000 * 1000000 := by
    have h1 : c * (n : Int) ≤ 1000 * (n : Int) := Int.mul_le_mul_of_nonneg_right (by omega) (by omega)
    omega
  have hb0 : 0 ≤ c * (n : Int) := Int.mul_nonneg (by omega) (by omega)
  refine ⟨by omega, by omega, ?_, e⟩
  unfold Builtin.Range.small
  rw [e]
  simp only [Builtin.Range.rangeFitsLong, Bool.and_eq_true, Bool.or_eq_true, decide_eq_true_eq, beq_iff_eq, gt_iff_lt, hc, if_true]
  omega
/-- [.. for a, b in enumerate(list)], the list left as it is -/
theorem lc_enum {K : PySem.W.Frag} {a : Addr} {xs : List V} {g : TG} {tt : TT} {te : TE} {vs : List Nat} {σ : L2.St} {H1 : Hp} {D : Addr} {Qd : Hp → Prop} (Pv : Nat → Hp → Prop) (h0 : Pv 0 (upd H1 D (.lst []))) (hl : ∀ i H, i ≤ xs.length → Pv i H → SqL K H a xs)
    (hs : ∀ i x T H, xs[i]? = some x → H T = none → Pv i H → g (.ref T) (wipe σ vs) (upd H T (.tup [.int (i : Nat), x])) fun σ2 H2 => wipe σ2 vs = wipe σ vs ∧ tt σ2 H2 fun b H3 =>
      if b = true then te σ2 H3 fun y H4 => ∃ acc, H4 D = some (.lst acc) ∧ acc.length < sizeLine ∧ Pv (i + 1) (upd H4 D (.lst (acc ++ [y]))) else Pv (i + 1) H3) (hd : ∀ H, Pv xs.length H → Qd H) :
    ∃ W : Nat → Nat → Hp → Prop, (∃ m, W 0 m (upd H1 D (.lst []))) ∧ ∀ i m H, W i m H →
      ((Ite K a).stop i H ∧ Qd H) ∨ ((Ite K a).go i H ∧ ∃ Nx : Hp → Prop, (∀ H', Nx H' → ∃ m', m' < m ∧ W (i + 1) m' H') ∧ ∀ x H', (Ite K a).yld i H x H' → g x (wipe σ vs) H' fun σ2 H2 => wipe σ2 vs = wipe σ vs ∧ tt σ2 H2 fun b H3 =>
        if b = true then te σ2 H3 fun y H4 => ∃ acc, H4 D = some (.lst acc) ∧ acc.length < sizeLine ∧ Nx (upd H4 D (.lst (acc ++ [y]))) else Nx H3) := by
  refine ⟨fun i m H => m = xs.length - i ∧ i ≤ xs.length ∧ Pv i H, ⟨xs.length, by simp, Nat.zero_le _, h0⟩, ?_⟩
  rintro i m H ⟨rfl, hi, p⟩
  have q := hl i H hi p
  by_cases hlt : i < xs.length
  · refine .inr ⟨⟨xs, xs[i], q, by simp [hlt]⟩, Pv (i + 1), fun H' p' => ⟨xs.length - (i + 1), by omega, rfl, hlt, p'⟩, fun x H' y => ?_⟩
    obtain ⟨T, z, e1, e2, e3, y⟩ := y
    subst e1 e3
    exact hs i z T H (y xs q) e2 p
  · have e : i = xs.length := by omega
    subst e
    exact .inl ⟨⟨xs, q, Nat.le_refl _⟩, hd H p⟩
end My
/-! EXCEPTIONS over the layer: raise C(), an exception that passes through a def, try .. except C. -/
namespace My
open PySem PySem.Spec PyProof.Rows L2
theorem objOk_there {P : Program} {w : World} {H : Hp} {h : Heap} {a : Addr} {o : HO} (x : ObjOk P w H h a o) : ∃ u, h.get? a = some u := by
  cases o with
  | lst xs => obtain ⟨_, _, _, _, e⟩ := x; exact ⟨_, e⟩
  | tup xs => obtain ⟨_, _, _, ob, e, _⟩ := x; exact ⟨_, e⟩
  | dK kvs => obtain ⟨_, _, _, _, ob, _, _, e, _⟩ := x; exact ⟨_, e⟩
  | dT kvs => obtain ⟨_, _, _, _, ob, _, _, e, _⟩ := x; exact ⟨_, e⟩
  | set S n => obtain ⟨ob, _, _, _, e, _⟩ := x; exact ⟨_, e⟩
  | ins C dx fs => obtain ⟨_, _, _, e, _⟩ := x; exact ⟨_, e⟩
  | own y => exact x
  | xd fs => obtain ⟨_, ⟨_, _, _, e, _⟩, _⟩ := x; exact ⟨_, e⟩
  | rng lo hi => obtain ⟨_, _, _, e⟩ := x; exact ⟨_, e⟩
  | frz ob u => obtain ⟨e, _⟩ := x; exact ⟨_, e⟩
  | tbl ps => exact ⟨_, (show h.get? a = some _ from x)⟩
  | met f y => exact ⟨_, (show h.get? a = some _ from x)⟩
  | ext φ => exact x.2.1
/-- an exception at a of the class cls flies: it and its traceback are no objects of h0, and not tracked -/
def Fly (h0 : Heap) (H : Hp) (h : Heap) (a : Addr) (cls : Value) : Prop :=
  ∃ (a0 : Value) (oe : Obj) (vs : Array Value) (T : Addr) (oT : Obj) (ts : Array Value), h.get? a = some oe ∧ (oe.cls = cls ∧ vs[0]? = some a0) ∧ oe.data = .fields vs ∧ vs[1]? = some (.ref T) ∧ T ≠ a ∧ h.get? T = some oT ∧ oT.data = .fields ts ∧
    ts[3]? = some .none ∧ (h0.get? a = none ∧ H a = none) ∧ h0.get? T = none ∧ H T = none
theorem Fly.weak {h0 h1 h : Heap} {H : Hp} {a : Addr} {cls : Value} (F : Fly h0 H h a cls) (k : ∀ b o, h1.get? b = some o → ∃ u, h0.get? b = some u) : Fly h1 H h a cls := by
  obtain ⟨a0, oe, vs, T, oT, ts, f1, f2, f3, f4, f5, f6, f7, f8, ⟨f9, f10⟩, f11, f12⟩ := F
  have no : ∀ b, h0.get? b = none → h1.get? b = none := fun b hb => by
    cases q : h1.get? b with
    | none => rfl
    | some o =>
      obtain ⟨u, e⟩ := k b o q
      rw [hb] at e
      cases e
  exact ⟨a0, oe, vs, T, oT, ts, f1, f2, f3, f4, f5, f6, f7, f8, ⟨no _ f9, f10⟩, no _ f11, f12⟩
/-- how an exception lies behind a call -/
def CX1 (P : Program) (w : World) : CXT := fun outer H s E e s' =>
  ∃ (a : Addr) (cls : Value) (H' : Hp), e = .ref a ∧ s'.os = s.os ∧ AllBare s'.gens ∧ Un (frs outer) [] H H' s.heap s'.heap ∧ HOk P w H' s'.heap ∧ Fly s.heap H' s'.heap a cls ∧ E cls none H'
section
variable {X : Cx} {pins : List (Addr × Obj)} {σ : L2.St} {H H' : Hp} {s s' : Shared} {h' : Heap} {a : Addr} {cls : Value}
/-- only the slots of the frames that run and the records at ch have changed -/
theorem inv_slots {ch : List Addr} (I : Inv X pins σ H s) (hch : ∀ b ∈ ch, X.s_0.heap.get? b = none ∧ H b = none ∧ ∀ p ∈ X.pn ++ pins, p.1 ≠ b) (keep : ∀ b o, b ∉ frs X.stack → b ∉ ch → s.heap.get? b = some o → h'.get? b = some o)
    (up : s.heap.UpToSlots h') : Inv X pins σ H { s with heap := h' } := by
  have neL : ∀ b o, X.s_0.heap.get? b = some o → b ≠ X.env.locals := fun b o e => Nat.ne_of_lt (Nat.lt_of_lt_of_le (Heap.lt_size e) I.ok.above)
  have neC : ∀ b o, X.s_0.heap.get? b = some o → b ∉ ch := fun b o e hb => by
    have := (hch b hb).1
    rw [e] at this
    cases this
  have nst : ∀ b, b ≠ X.env.locals → b ∉ X.fs → b ∉ frs X.stack := fun b h1 h2 hb => (List.mem_cons.mp (I.stkSub b hb)).elim h1 h2
  have cellK : ∀ c v, s.heap.IsCell c v → h'.IsCell c v := fun c v ⟨o, ho, hd⟩ => by
    obtain ⟨sl, e⟩ := up c o ho fun vs q => by rw [hd] at q; cases q
    exact ⟨_, e, hd⟩
  refine ⟨I.ok, I.os, I.bare, ⟨fun b o e n hb hx => ?_, fun b o e n hb hx => ?_, I.base.free, fun b o e hx => ?_, I.base.tups, I.base.frzs, I.base.tbls⟩, ?_, fun x c e => ?_, I.free, I.freeC, fun p hp => ?_, fun b u e => ?_, I.len⟩
  · exact keep b o (nst b (neL b o e) hb) (neC b o e) (I.base.keep b o e n hb hx)
  · obtain ⟨sl, e1⟩ := I.base.slot b o e n hb hx
    obtain ⟨_, o2, ho2, hd2⟩ := I.ok.funs.mem hb
    rw [e] at ho2
    cases ho2
    obtain ⟨sl', e2⟩ := up b _ e1 hd2
    exact ⟨sl', e2⟩
  · obtain ⟨o', e1⟩ := I.base.there b o e hx
    by_cases hb : b ∈ frs X.stack
    · obtain ⟨_, o2, ho2, hd2⟩ := I.stack.mem hb
      obtain ⟨sl', e2⟩ := up b _ ho2 hd2
      exact ⟨_, e2⟩
    · exact ⟨o', keep b o' hb (neC b o e) e1⟩
  · obtain ⟨m, hn, hl⟩ := I.loc
    refine ⟨m, up.ns hn, fun i x v e1 e2 e3 => ?_⟩
    obtain ⟨u, r, l⟩ := hl i x v e1 e2 e3
    refine ⟨u, r, ?_⟩
    rcases l with l | ⟨k, c, e, z⟩
    · exact .inl l
    · exact .inr ⟨k, c, e, cellK c _ z⟩
  · obtain ⟨v, z⟩ := I.cell x c e
    exact ⟨v, cellK c v z⟩
  · obtain ⟨e, n, ne, nf, d⟩ := I.pin p hp
    exact ⟨keep p.1 p.2 (nst p.1 ne nf) (fun z => (hch p.1 z).2.2 p hp rfl) e, n, ne, nf, d⟩
  · have nt : ∀ c v, H c = some v → c ∉ frs X.stack ∧ c ∉ ch := fun c v q => ⟨fun z => (by rw [I.stkFree c z] at q; cases q), fun z => (by rw [(hch c z).2.1] at q; cases q)⟩
    refine (I.hok b u e).stay (fun c v hc q => ?_) (fun _ q => q) fun _ _ q => q
    rcases hc with z | z
    · subst z
      exact keep c v (nt c u e).1 (nt c u e).2 q
    · exact keep c v (nt c _ z).1 (nt c _ z).2 q
/-- out of the library's words -/
theorem fly_out {h h1 base : Heap} {l fl : List Env} {ex : List Addr} {a0 : Value} (ff : h.FunFrames base fl) (hok : ∀ b u, H b = some u → ∃ o, h.get? b = some o) (f : Heap.FlyingW (PySem.W.hideAll h (frs fl ++ ex)) l a cls a0 h') (up : h.UpToSlots h')
    (h1s : ∀ b o, h1.get? b = some o → ∃ u, h.get? b = some u) (ha : h1.get? a = none) (hb : H a = none) (hex : ∀ b ∈ ex, b ≠ a → h1.get? b = none ∧ H b = none) : Fly h1 H h' a cls := by
  obtain ⟨_, _, _, oe, vs, T, oT, ts, f1, f2, f3, f4, f5, f6, f7, f8, f9⟩ := f
  have key : ∀ o, h.get? T = some o → T ∈ ex := fun o e => by
    by_cases hm : T ∈ frs fl ++ ex
    · rcases List.mem_append.mp hm with z | z
      · obtain ⟨_, o2, ho2, hd2⟩ := ff.mem z
        obtain ⟨sl, e2⟩ := up T o2 ho2 hd2
        rw [f7] at e2
        cases e2
        exact absurd f8 (hd2 ts)
      · exact z
    · have := PySem.W.hideAll_get _ e hm
      rw [f5] at this
      cases this
  refine ⟨a0, oe, vs, T, oT, ts, f1, f2, f3, f4, f6, f7, f8, f9, ⟨ha, hb⟩, ?_, ?_⟩
  · cases q : h1.get? T with
    | none => rfl
    | some o =>
      obtain ⟨u, e⟩ := h1s T o q
      rw [(hex T (key u e) f6).1] at q
      cases q
  · cases q : H T with
    | none => rfl
    | some o =>
      obtain ⟨u, e⟩ := hok T o q
      rw [(hex T (key u e) f6).2] at q
      cases q
/-- into the library's words -/
theorem fly_in {h0 : Heap} (I : Inv X pins σ H s) (F : Fly h0 H s.heap a cls) : ∃ (T : Addr) (a0 : Value), (h0.get? a = none ∧ H a = none) ∧ (h0.get? T = none ∧ H T = none) ∧ Heap.FlyingW (PySem.W.hideAll s.heap (frs X.stack ++ [a, T])) X.stack a cls a0 s.heap := by
  obtain ⟨a0, oe, vs, T, oT, ts, f1, f2, f3, f4, f5, f6, f7, f8, ⟨f9, f10⟩, f11, f12⟩ := F
  refine ⟨T, a0, ⟨f9, f10⟩, ⟨f11, f12⟩, fun b o q => PySem.W.of_hideAll _ q, PySem.W.hideAll_none _ (by simp), PySem.W.funFrames_hide I.stack fun env he c hc => ?_, oe, vs, T, oT, ts, f1, f2, f3, f4, PySem.W.hideAll_none _ (by simp), f5, f6, f7, f8⟩
  exact List.mem_append_left _ (List.mem_filterMap.mpr ⟨env, he, hc⟩)
/-- behind a callee's exception -/
theorem inv_exc (I : Inv X pins σ H s) (ho : s'.os = s.os) (hg : AllBare s'.gens) (u : Un (frs X.stack) [] H H' s.heap s'.heap) (hok : HOk X.prog X.w H' s'.heap) : Inv X pins σ H' s' := I.call' ho u hok hg fun b z => absurd z (by simp)
/-- the step of noting a frame: what it leaves -/
theorem fly_step {h0 : Heap} {T : Addr} {a0 : Value} {l : List Env} (hex : X.ex = []) (h0s : ∀ b o, X.s_0.heap.get? b = some o → ∃ u, h0.get? b = some u) (h0p : ∀ p ∈ X.pn ++ pins, ∃ u, h0.get? p.1 = some u) (I : Inv X pins σ H s) (h0t : ∀ b o, h0.get? b = some o → ∃ u, s.heap.get? b = some u)
    (na : h0.get? a = none ∧ H a = none) (nT : h0.get? T = none ∧ H T = none) (f : Heap.FlyingW (PySem.W.hideAll s.heap (frs X.stack ++ [a, T])) l a cls a0 h') (up : s.heap.UpToSlots h') : Inv X pins σ H { s with heap := h' } ∧ Fly h0 H h' a cls := by
  have no : ∀ b, h0.get? b = none → ∀ o, X.s_0.heap.get? b = some o → False := fun b hb o e => by
    obtain ⟨u, e'⟩ := h0s b o e
    rw [hb] at e'
    cases e'
  have non : ∀ b, h0.get? b = none → X.s_0.heap.get? b = none := fun b hb => by
    cases q : X.s_0.heap.get? b with
    | none => rfl
    | some o => exact (no b hb o q).elim
  have npin : ∀ b, h0.get? b = none → ∀ p ∈ X.pn ++ pins, p.1 ≠ b := fun b hb p hp z => by
    obtain ⟨u, e⟩ := h0p p hp
    rw [z, hb] at e
    cases e
  refine ⟨inv_slots (ch := [a, T]) I (fun b hb => ?_) (fun b o h1 h2 e => f.1 b o (PySem.W.hideAll_get _ e fun z => ?_)) up, fly_out I.stack (fun b u e => objOk_there (I.hok b u e)) f up h0t na.1 na.2 fun b hb ne => ?_⟩
  · rcases List.mem_cons.mp hb with z | z
    · subst z
      exact ⟨non _ na.1, na.2, npin _ na.1⟩
    · have z : b = T := by simpa using z
      subst z
      exact ⟨non _ nT.1, nT.2, npin _ nT.1⟩
  · rcases List.mem_append.mp z with z | z
    · exact h1 z
    · exact h2 z
  · rcases List.mem_cons.mp hb with z | z
    · exact absurd z ne
    · have z : b = T := by simpa using z
      subst z
      exact nT
theorem inv_old (hex : X.ex = []) (I : Inv X pins σ H s) : (∀ b o, X.s_0.heap.get? b = some o → ∃ u, s.heap.get? b = some u) ∧ ∀ p ∈ X.pn ++ pins, ∃ u, s.heap.get? p.1 = some u :=
  ⟨fun b o e => I.base.there b o e (by rw [hex]; simp), fun p hp => ⟨_, (I.pin p hp).1⟩⟩
end
/-- what a body of a def wants of an exception: it leaves, and lies as CX1 says -/
def xeOf (X : Cx) (E : XK) : Value → Shared → Prop := fun e s' => wpAny (model X.prog X.w) X.A (leaving X.env e) (fun _ s'' => CX1 X.prog X.w X.outer X.H_0 X.s_0 E e s'') (fun e' s'' => CX1 X.prog X.w X.outer X.H_0 X.s_0 E e' s'') s'
structure Leaves (X : Cx) (E : XK) : Prop where
  xe : X.xe = xeOf X E
  ex : X.ex = []
  stk : X.stack = X.env :: X.outer
  fr : X.env.frame = some X.env.locals
  calm : X.calm = true
theorem Leaves.passes {X : Cx} {E : XK} (L : Leaves X E) : Passes (CX1 X.prog X.w) X E := by
  intro pins σ H s e s' I h
  obtain ⟨a, cls, H', rfl, ho, hg, u, hok, F, q⟩ := h
  rw [L.xe]
  have J := inv_exc I ho hg u hok
  obtain ⟨T, a0, na, nT, f⟩ := fly_in J F
  have old := inv_old L.ex I
  have ff := L.stk ▸ f
  refine wpAny_leaves_onW (by rw [I.ok.frames, L.stk]) L.fr (L.stk ▸ f) fun h' f' up => ?_
  have e := fly_step (h' := h') (l := X.outer) L.ex old.1 old.2 J (fun b o z => u.there b o z (by simp)) na nT (by rw [L.stk]; exact f') up
  obtain ⟨J', F'⟩ := e
  refine ⟨a, cls, H', rfl, J'.os, J'.bare, ?_, J'.hok, F'.weak old.1, q⟩
  have b := J'.base
  rw [L.ex] at b
  exact b
theorem Leaves.own {X : Cx} {E : XK} (L : Leaves X E) : PassesOwn (model X.prog X.w) X.A X.env X.xe := by
  rw [L.xe]
  exact PassesOwn.leaving
theorem leaves_cx {P : Program} {w : World} {K : PySem.W.Frag} {mg : Str → Option Value} {base : Heap} {N : List Str} {qual : Str} {scope : Scope} {f : Addr} {cd : Value} {A : Around} {outer : List Env} {s : Shared} {H : Hp} {E : XK} :
    Leaves (cxOf (CX1 P w) P w K mg base N qual scope f cd A outer s H E) E := ⟨rfl, rfl, rfl, rfl, rfl⟩
/-- a def that may raise -/
theorem fun_ok1 {P : Program} {w : World} {K : PySem.W.Frag} {mg : Str → Option Value} {base : Heap} {x qual : Str} {st : Stmt} {f : Addr} {fd : FuncData} {N ps : List Str} {k : Nat} {sp : Sp} (F : Fun K x qual st f fd) (S : FnScope N ps (defScope st)) (len : ∀ vs H Q E, sp vs H Q E → vs.length = ps.length)
    (hbody : ∀ (cdv : Value) (A : Around) (outer : List Env) (s : Shared) (H : Hp) (vs : List V) (Q : VK) (E : XK), Room k (A.deeper (envOfC qual (defScope st) s.heap.objs.size f cdv)) → sp vs H Q E →
      ∃ t, PSs (cxOf (CX1 P w) P w K mg base N qual (defScope st) f cdv A outer s H E) (defBody st) t ∧ t { nx := fun _ H' => Q .non H', rt := Q } (start N vs) H) : FnOk P w K mg base (CX1 P w) (k + 1) f fd ps sp := by
  obtain ⟨oc, od, kV, doc, pm, an, cdv, ct, osl, rfl, lk, hcd⟩ := F.ex
  exact fn_of lk hcd S len fun A outer s H vs Q E hr hsp => hbody cdv A outer s H vs Q E hr hsp
/-! ### raise C() -/
/-- an exception class of the text: class C(Exception) with nothing of its own -/
def excBm : List Value := [.type "Exception", .type "BaseException", .type "object"]
def ExcAt (K : PySem.W.Frag) (C : Addr) : Prop := PySem.W.excIn K C excBm "Exception.__new__" = true
theorem exc_obj {K : PySem.W.Frag} {h : Heap} {C : Addr} {bm : List Value} {id : String} (kin : K.In h) (q : PySem.W.excIn K C bm id = true) : ∃ tl ns nm qn bs hd sn sub ab col dd k0 k1 k2 k3 k5 mN,
    h.get? C = some (excClassObj nm qn C ns bs tl hd sn sub ab col dd k0 k1 k2 k3 k5 id) ∧ h.Ns ns mN ∧ mN "__init__" = none ∧ OwnTail h bm tl := by
  unfold PySem.W.excIn at q
  split at q
  · rename_i dd cdata slots lk
    split at q
    · rename_i C2 tl s0 s1 s2 s3 nid s5 emro eslots
      simp only [Bool.not_eq_true', Bool.and_eq_true, beq_iff_eq] at q
      obtain ⟨⟨⟨⟨⟨e1, e2⟩, e3⟩, e4⟩, e5⟩, e6⟩ := q
      subst e1 e2
      obtain ⟨nm, bs, mro, ns, qn, hd, sn, sub, ab, col, del⟩ := cdata
      have em : mro = .ref C2 :: tl := emro
      have ed : del = false := e3
      subst em ed
      have es : slots = #[s0, s1, s2, s3, some (.builtin nid), s5] := by
        cases slots with
        | mk l => exact congrArg Array.mk eslots
      subst es
      exact ⟨tl, ns, nm, qn, bs, hd, sn, sub, ab, col, dd, s0, s1, s2, s3, s5, _, kin _ _ lk, .of_isNs (PySem.W.isNs_of_in kin e5), PySem.W.nsMap_none_of_in kin e5 e6, PySem.W.tail_of_in kin e4⟩
    · cases q
  · cases q
theorem ps_raise0 {X : Cx} {E : XK} {C : Addr} {x : Str} {np cpos pos : Pos} (L : Leaves X E) (O : ExcAt X.K C) (hm : X.mg x = some (.ref C)) (hg : Gl X x := by rfl) (hdb : (x == ("__debug__" : Str)) = false := by decide) :
    PS X (.Raise (some (.Call (.Name x np) [] [] cpos)) none pos) (fun _ _ H => E (.ref C) none H) := by
  intro pins s σ H D I h
  obtain ⟨tl, ns, nm, qn, bs, hd, sn, sub, ab, col, dd, k0, k1, k2, k3, k5, mN, hC, hN, hni, T⟩ := exc_obj I.kIn O
  refine wpAny_Raise_call_subT (C := C) (nm := nm) (q := qn) (N := ns) (bs := bs) (bm := tl) (hdct := hd) (sn := sn) (sub := sub) (ab := ab) (col := col) (dd := dd) (k0 := k0) (k1 := k1) (k2 := k2) (k3 := k3) (k5 := k5) PySem.F.excBase_Exception (T.hasType PySem.F.excBase_Exception.hasBase) (I.ok.hd L.calm) rfl hni (ld_glob I hg hm ⟨rfl, ?_⟩ hdb)
  refine evalArgs_empty ⟨rfl, Nat.zero_le _, hC, hN, T, fun h' e hx => ?_⟩
  rw [L.xe]
  have st := I.stack
  refine wpAny_leaves_madeW (base := PySem.W.hideAll s.heap (frs X.stack ++ [])) (h := s.heap) (by rw [I.ok.frames, L.stk]) L.fr (fun b o q => PySem.W.of_hideAll _ q) ?_ hx fun h'' t f tup bt up => ?_
  · rw [← L.stk]
    exact PySem.W.funFrames_hide st fun env he c hc => List.mem_append_left _ (List.mem_filterMap.mpr ⟨env, he, hc⟩)
  · have up2 : s.heap.UpToSlots h'' := (Heap.UpToSlots.of_keeps hx.keeps).trans up
    have He : H e = none := by
      cases q : H e with
      | none => rfl
      | some u =>
        obtain ⟨o, eo⟩ := objOk_there (I.hok e u q)
        rw [hx.new] at eo
        cases eo
    have J : Inv X pins σ H { s with heap := h'' } := inv_slots (ch := []) I (fun b z => absurd z (by simp)) (fun b o h1 _ q => f.1 b o (PySem.W.hideAll_get _ q (by simpa using h1))) up2
    have F : Fly s.heap H h'' e (.ref C) := fly_out st (fun b u q => objOk_there (I.hok b u q)) f up2 (fun b o q => ⟨o, q⟩) hx.new He fun b z => absurd z (by simp)
    refine ⟨e, .ref C, H, rfl, J.os, J.bare, ?_, J.hok, F.weak (inv_old L.ex I).1, h⟩
    have b := J.base
    rw [L.ex] at b
    exact b
/-! ### try .. except C1: .. except C2: .. -/
/-- the body of a try: the pins are the context's -/
abbrev Cx.tr (X : Cx) (pins : List (Addr × Obj)) (F : Value → Shared → Prop) : Cx := { X with pn := X.pn ++ pins, xe := F }
/-- a suite behind except -/
abbrev Cx.suite (X : Cx) (a : Addr) : Cx := { X with A := X.A.mark (some (.ref a)), calm := false, xe := fun _ _ => False }
section
variable {X : Cx} {pins pins' : List (Addr × Obj)} {σ : L2.St} {H : Hp} {s : Shared} {F : Value → Shared → Prop} {a : Addr}
theorem inv_tr (I : Inv X pins σ H s) : Inv (Cx.tr X pins F) [] σ H s :=
  ⟨⟨I.ok.mod, I.ok.kind, I.ok.glob, I.ok.blt, I.ok.above, I.ok.inj, I.ok.has, I.ok.cab, I.ok.hd, I.ok.frames, I.ok.stk, I.ok.exf, I.ok.bs, I.ok.bsz, I.ok.noex, I.ok.exfs, I.ok.funs, I.ok.frf⟩, I.os, I.bare, I.base, I.loc, I.cell, I.free, I.freeC, fun p hp => I.pin p (by simpa using hp), I.hok, I.len⟩
theorem inv_untr (I : Inv (Cx.tr X pins F) pins' σ H s) : Inv X pins σ H s :=
  ⟨⟨I.ok.mod, I.ok.kind, I.ok.glob, I.ok.blt, I.ok.above, I.ok.inj, I.ok.has, I.ok.cab, I.ok.hd, I.ok.frames, I.ok.stk, I.ok.exf, I.ok.bs, I.ok.bsz, I.ok.noex, I.ok.exfs, I.ok.funs, I.ok.frf⟩, I.os, I.bare, I.base, I.loc, I.cell, I.free, I.freeC, fun p hp => I.pin p (List.mem_append_left _ hp), I.hok, I.len⟩
theorem inv_suite (I : Inv X pins σ H s) : Inv (Cx.suite X a) pins σ H s :=
  ⟨⟨I.ok.mod, I.ok.kind, I.ok.glob, I.ok.blt, I.ok.above, I.ok.inj, I.ok.has, I.ok.cab, (fun z => by cases z), I.ok.frames, I.ok.stk, I.ok.exf, I.ok.bs, I.ok.bsz, I.ok.noex, I.ok.exfs, I.ok.funs, I.ok.frf⟩, I.os, I.bare, I.base, I.loc, I.cell, I.free, I.freeC, I.pin, I.hok, I.len⟩
theorem inv_unsuite (ok : X.Ok) (I : Inv (Cx.suite X a) pins σ H s) : Inv X pins σ H s := ⟨ok, I.os, I.bare, I.base, I.loc, I.cell, I.free, I.freeC, I.pin, I.hok, I.len⟩
theorem sp_untr {D : Ends} {f : Flow} {s' : Shared} (h : SP (Cx.tr X pins F) pins' D f s') : SP X pins D f s' := by
  cases f with
  | next => obtain ⟨σ', H', I, q⟩ := h; exact ⟨σ', H', inv_untr I, q⟩
  | brk => obtain ⟨σ', H', I, q⟩ := h; exact ⟨σ', H', inv_untr I, q⟩
  | cont => obtain ⟨σ', H', I, q⟩ := h; exact ⟨σ', H', inv_untr I, q⟩
  | ret u => obtain ⟨v, σ', H', I, r, q⟩ := h; exact ⟨v, σ', H', inv_untr I, r, q⟩
theorem sp_unsuite {D : Ends} {f : Flow} {s' : Shared} (ok : X.Ok) (h : SP (Cx.suite X a) pins D f s') : SP X pins D f s' := by
  cases f with
  | next => obtain ⟨σ', H', I, q⟩ := h; exact ⟨σ', H', inv_unsuite ok I, q⟩
  | brk => obtain ⟨σ', H', I, q⟩ := h; exact ⟨σ', H', inv_unsuite ok I, q⟩
  | cont => obtain ⟨σ', H', I, q⟩ := h; exact ⟨σ', H', inv_unsuite ok I, q⟩
  | ret u => obtain ⟨v, σ', H', I, r, q⟩ := h; exact ⟨v, σ', H', inv_unsuite ok I, r, q⟩
end
section
variable {X : Cx} {pins : List (Addr × Obj)} {σ : L2.St} {H : Hp} {s : Shared} {a : Addr} {cls : Value} {D : Ends} {h0 : Heap}
/-- an exception that is held by a try -/
structure HeldX (X : Cx) (pins : List (Addr × Obj)) (σ : L2.St) (H : Hp) (h0 : Heap) (a : Addr) (cls : Value) (s : Shared) : Prop where
  inv : Inv X pins σ H s
  fly : Fly h0 H s.heap a cls
  old : ∀ b o, X.s_0.heap.get? b = some o → ∃ u, h0.get? b = some u
  pin : ∀ p ∈ X.pn ++ pins, ∃ u, h0.get? p.1 = some u
  now : ∀ b o, h0.get? b = some o → ∃ u, s.heap.get? b = some u
theorem HeldX.ty (R : HeldX X pins σ H h0 a cls s) {M : Model} : PySem.W.Looks M s.heap (typeOf (.ref a)) cls := by
  obtain ⟨a0, oe, vs, T, oT, ts, f1, f2, f3, f4, f5, f6, f7, f8, f9, f11, f12⟩ := R.fly
  rw [← f2.1]
  exact (PySem.W.Looks.ld f1).andThen .now
/-- the clause is not for it -/
theorem hand_skip {C : Addr} {x : Str} {np hpos : Pos} {b0 : Stmt} {suite : List Stmt} {rest : List ExceptHandler} {Q : Flow → Shared → Prop} {E : Value → Shared → Prop} (R : HeldX X pins σ H h0 a cls s) (hm : X.mg x = some (.ref C)) (no : PySem.W.exmOne X.K cls (.ref C) = some false)
    (h : wpAny (model X.prog X.w) X.A (handleBy (.ref a) X.env rest) Q E s) (hg : Gl X x := by rfl) (hdb : (x == ("__debug__" : Str)) = false := by decide) :
    wpAny (model X.prog X.w) X.A (handleBy (.ref a) X.env (.ExceptHandler (some (.Name x np)) none (b0 :: suite) hpos :: rest)) Q E s := by
  refine wpAny_handleBy_cons (codeAny_handlers_test (ld_glob (X := Cx.suite X a) (inv_suite R.inv) hg hm ?_ hdb)) (by intro q; cases q)
  exact PySem.W.exm_one R.inv.kIn R.ty no _ _ _ _ (fun _ _ z => z) h
/-- the clause is for it -/
theorem hand_hit {C : Addr} {x : Str} {np hpos : Pos} {b0 : Stmt} {suite : List Stmt} {rest : List ExceptHandler} {E : Value → Shared → Prop} {t : TS} (hex : X.ex = []) (R : HeldX X pins σ H h0 a cls s) (hm : X.mg x = some (.ref C)) (yes : PySem.W.exmOne X.K cls (.ref C) = some true)
    (hs : PSs (Cx.suite X a) (b0 :: suite) t) (h : t D σ H) (hg : Gl X x := by rfl) (hdb : (x == ("__debug__" : Str)) = false := by decide) :
    wpAny (model X.prog X.w) X.A (handleBy (.ref a) X.env (.ExceptHandler (some (.Name x np)) none (b0 :: suite) hpos :: rest)) (SP X pins D) E s := by
  refine wpAny_handleBy_cons (codeAny_handlers_test (ld_glob (X := Cx.suite X a) (inv_suite R.inv) hg hm ?_ hdb)) (by intro q; cases q)
  refine PySem.W.exm_one R.inv.kIn R.ty yes _ _ _ _ (fun _ _ z => z) (codeAny_handlers_suite ?_)
  obtain ⟨T, a0, na, nT, f⟩ := fly_in R.inv R.fly
  refine lands_againW f fun h' f' up => ?_
  obtain ⟨J, _⟩ := fly_step (h' := h') hex R.old R.pin R.inv R.now na nT f' up
  exact wpAny_mono (hs pins _ σ H D (inv_suite J) h) (fun fl s' q => sp_unsuite J.ok q) fun _ _ z => False.elim z
end
def tTry (E : XK) (tb : TS) (hand : Ends → Value → L2.St → Hp → Prop) : TS := fun D σ H => tb D σ H ∧ ∀ cls H' σ', E cls none H' → hand D cls σ' H'
/-- try: body except C1: suite1 except C2: suite2 -/
theorem ps_try2 {X : Cx} {E : XK} {C1 C2 : Addr} {x1 x2 : Str} {np1 np2 hp1 hp2 pos : Pos} {b1 b2 : Stmt} {su1 su2 body : List Stmt} {tb t1 t2 : TS} (hex : X.ex = []) (stk : X.stack = X.env :: X.outer) (hf : X.env.frame = some X.env.locals)
    (m1 : X.mg x1 = some (.ref C1)) (m2 : X.mg x2 = some (.ref C2)) (n11 : PySem.W.exmOne X.K (.ref C1) (.ref C1) = some true) (n21 : PySem.W.exmOne X.K (.ref C2) (.ref C1) = some false) (n22 : PySem.W.exmOne X.K (.ref C2) (.ref C2) = some true)
    (hb : ∀ pins F, Passes (CX1 X.prog X.w) (Cx.tr X pins F) E → PSs (Cx.tr X pins F) body tb) (hs1 : ∀ a, PSs (Cx.suite X a) (b1 :: su1) t1) (hs2 : ∀ a, PSs (Cx.suite X a) (b2 :: su2) t2)
    (g1 : Gl X x1 := by rfl) (g2 : Gl X x2 := by rfl) (d1 : (x1 == ("__debug__" : Str)) = false := by decide) (d2 : (x2 == ("__debug__" : Str)) = false := by decide) :
    PS X (.Try body [.ExceptHandler (some (.Name x1 np1)) none (b1 :: su1) hp1, .ExceptHandler (some (.Name x2 np2)) none (b2 :: su2) hp2] [] [] pos) (tTry E tb fun D cls σ' H' => (cls = .ref C1 ∧ t1 D σ' H') ∨ (cls = .ref C2 ∧ t2 D σ' H')) := by
  intro pins s σ H D I h
  refine wpAny_Try_except ?_
  refine wpAny_mono (hb pins _ ?_ [] s σ H D (inv_tr I) h.1) (fun fl s1 q => ?_) fun e s1 q => q
  · intro pins' σ' H1 s1 e s2 I1 hx
    obtain ⟨a, cls, H', rfl, ho, hg, u, hok, F, q⟩ := hx
    have I1 := inv_untr I1
    have J := inv_exc I1 ho hg u hok
    obtain ⟨T, a0, na, nT, f⟩ := fly_in J F
    have old := inv_old hex I1
    refine wpAny_looks_onW (by rw [I1.ok.frames, stk]) hf (stk ▸ f) fun h3 f3 up3 => ?_
    refine wpAny_landsW f3 fun h4 f4 up4 => ?_
    obtain ⟨J', F'⟩ := fly_step (h' := h4) (l := X.stack) hex old.1 old.2 J (fun b o z => u.there b o z (by simp)) na nT (by rw [stk]; exact f4) (up3.trans up4)
    have R : HeldX X pins σ' H' s1.heap a cls { s2 with heap := h4 } := by
      refine ⟨J', F', old.1, old.2, fun b o z => ?_⟩
      obtain ⟨o1, e1⟩ := u.there b o z (by simp)
      have k := f4.1
      by_cases hm : b ∈ frs X.stack ++ [a, T]
      · rcases List.mem_append.mp hm with z2 | z2
        · obtain ⟨_, o2, ho2, hd2⟩ := J.stack.mem z2
          obtain ⟨sl, e2⟩ := (up3.trans up4) b o2 ho2 hd2
          exact ⟨_, e2⟩
        · rcases List.mem_cons.mp z2 with z3 | z3
          · subst z3
            rw [na.1] at z
            cases z
          · have z3 : b = T := by simpa using z3
            subst z3
            rw [nT.1] at z
            cases z
      · refine ⟨o1, k b o1 ?_⟩
        rw [← stk]
        exact PySem.W.hideAll_get _ e1 hm
    rcases h.2 cls H' σ' q with ⟨e1, q1⟩ | ⟨e2, q2⟩
    · subst e1
      exact hand_hit hex R m1 n11 (hs1 a) q1 g1 d1
    · subst e2
      exact hand_skip R m1 n21 (hand_hit hex R m2 n22 (hs2 a) q2 g2 d2) g1 d1
  · have q := sp_untr q
    cases fl with
    | next =>
      obtain ⟨σ', H', J, q⟩ := q
      exact wpAny_execs_nil ⟨σ', H', J, q⟩
    | brk => exact q
    | cont => exact q
    | ret u => exact q
end My
/-! MORE WORDS: methods of own classes, classes with an __init__ of their own, list.remove and list.insert. -/
namespace My
open PySem PySem.Spec PyProof.Rows L2
/-! ### methods -/
def MethAt (K : PySem.W.Frag) (C : Addr) (m qual : Str) (st : Stmt) : Prop := ∃ f fd, Meth K C m f ∧ Fun K m qual st f fd
theorem methAt_mk {K : PySem.W.Frag} {C f : Addr} {m qual : Str} {st : Stmt} {oc : Value} {od an : Option Addr} {osl : Array (Option Value)} {kV doc pm cdv ct : Value} (a : PySem.W.findIn K (.ref C) m = some (some (.ref f))) (i : PySem.W.isFn K (.ref f) = true)
    (l : K.lookup f = some ⟨oc, od, .func (PySem.W.fnOf m qual (defArgs st) (defBody st) (defScope st) .none kV doc pm an cdv ct), osl⟩) (c : PySem.W.codeIn K cdv qual = true) (k : PySem.W.keepIn K (.ref f) = true) : MethAt K C m qual st := ⟨f, _, ⟨a, i, k⟩, fun_mk l c k⟩
structure OkM (P : Program) (w : World) (K : PySem.W.Frag) (mg : Str → Option Value) (base : Heap) (CX : CXT) (k : Nat) (C : Addr) (m : Str) (ps : List Str) (sp : Sp) : Prop where
  cl : Cls K C
  ex : ∃ f fd, Meth K C m f ∧ Binds K fd ps [] ∧ FnOk P w K mg base CX k f fd ps sp
theorem okM_of {P : Program} {w : World} {K : PySem.W.Frag} {mg : Str → Option Value} {base : Heap} {C : Addr} {m qual : Str} {st : Stmt} {N ps : List Str} {k : Nat} {sp : Sp} (c : Cls K C) (D : MethAt K C m qual st) (S : FnScope N ps (defScope st))
    (hb : ∀ (kV doc pm : Value) (an : Option Addr) (cdv ct : Value) (us : List Value), us.length = ps.length → bindArgs (PySem.W.fnOf m qual (defArgs st) (defBody st) (defScope st) .none kV doc pm an cdv ct) ⟨us, []⟩ = pure (ps.zip us))
    (len : ∀ vs H Q E, sp vs H Q E → vs.length = ps.length)
    (hbody : ∀ (f : Addr) (cdv : Value) (A : Around) (outer : List Env) (s : Shared) (H : Hp) (vs : List V) (Q : VK) (E : XK), Room k (A.deeper (envOfC qual (defScope st) s.heap.objs.size f cdv)) → sp vs H Q E →
      ∃ t, PSs (cxOf CX0 P w K mg base N qual (defScope st) f cdv A outer s H E).nox (defBody st) t ∧ t { nx := fun _ H' => Q .non H', rt := Q } (start N vs) H) : OkM P w K mg base CX0 (k + 1) C m ps sp := by
  obtain ⟨f, fd, M, F⟩ := D
  exact ⟨c, f, fd, M, F.binds hb, F.ok S len (hbody f)⟩
theorem okM1_of {P : Program} {w : World} {K : PySem.W.Frag} {mg : Str → Option Value} {base : Heap} {C : Addr} {m qual : Str} {st : Stmt} {N ps : List Str} {k : Nat} {sp : Sp} (c : Cls K C) (D : MethAt K C m qual st) (S : FnScope N ps (defScope st))
    (hb : ∀ (kV doc pm : Value) (an : Option Addr) (cdv ct : Value) (us : List Value), us.length = ps.length → bindArgs (PySem.W.fnOf m qual (defArgs st) (defBody st) (defScope st) .none kV doc pm an cdv ct) ⟨us, []⟩ = pure (ps.zip us))
    (len : ∀ vs H Q E, sp vs H Q E → vs.length = ps.length)
    (hbody : ∀ (f : Addr) (cdv : Value) (A : Around) (outer : List Env) (s : Shared) (H : Hp) (vs : List V) (Q : VK) (E : XK), Room k (A.deeper (envOfC qual (defScope st) s.heap.objs.size f cdv)) → sp vs H Q E →
      ∃ t, PSs (cxOf (CX1 P w) P w K mg base N qual (defScope st) f cdv A outer s H E) (defBody st) t ∧ t { nx := fun _ H' => Q .non H', rt := Q } (start N vs) H) : OkM P w K mg base (CX1 P w) (k + 1) C m ps sp := by
  obtain ⟨f, fd, M, F⟩ := D
  exact ⟨c, f, fd, M, F.binds hb, fun_ok1 F S len (hbody f)⟩
/-- a def that may raise, by its name -/
structure Ok1 (P : Program) (w : World) (K : PySem.W.Frag) (mg : Str → Option Value) (base : Heap) (k : Nat) (x : Str) (ps : List Str) (sp : Sp) : Prop where
  ex : ∃ f fd, mg x = some (.ref f) ∧ PySem.W.keepIn K (.ref f) = true ∧ Binds K fd ps [] ∧ FnOk P w K mg base (CX1 P w) k f fd ps sp
theorem ok1_of {P : Program} {w : World} {K : PySem.W.Frag} {mg : Str → Option Value} {base : Heap} {x : Str} {st : Stmt} {N ps : List Str} {k : Nat} {sp : Sp} (D : DefAt K mg x st) (S : FnScope N ps (defScope st))
    (hb : ∀ (kV doc pm : Value) (an : Option Addr) (cdv ct : Value) (us : List Value), us.length = ps.length → bindArgs (PySem.W.fnOf x x (defArgs st) (defBody st) (defScope st) .none kV doc pm an cdv ct) ⟨us, []⟩ = pure (ps.zip us))
    (len : ∀ vs H Q E, sp vs H Q E → vs.length = ps.length)
    (hbody : ∀ (f : Addr) (cdv : Value) (A : Around) (outer : List Env) (s : Shared) (H : Hp) (vs : List V) (Q : VK) (E : XK), Room k (A.deeper (envOfC x (defScope st) s.heap.objs.size f cdv)) → sp vs H Q E →
      ∃ t, PSs (cxOf (CX1 P w) P w K mg base N x (defScope st) f cdv A outer s H E) (defBody st) t ∧ t { nx := fun _ H' => Q .non H', rt := Q } (start N vs) H) : Ok1 P w K mg base (k + 1) x ps sp := by
  obtain ⟨f, fd, hm, F⟩ := D
  exact ⟨f, fd, hm, F.kp, F.binds hb, fun_ok1 F S len (hbody f)⟩
/-- a class whose __init__ keeps sp -/
structure OkI (P : Program) (w : World) (K : PySem.W.Frag) (mg : Str → Option Value) (base : Heap) (k : Nat) (x : Str) (C : Addr) (ps : List Str) (sp : Sp) : Prop where
  mgC : mg x = some (.ref C)
  ex : ∃ f fd, Mk K C f ∧ Binds K fd ps [] ∧ FnOk P w K mg base CX0 k f fd ps sp
theorem okI_of {P : Program} {w : World} {K : PySem.W.Frag} {mg : Str → Option Value} {base : Heap} {x qual : Str} {C : Addr} {st : Stmt} {names N ps : List Str} {k : Nat} {sp : Sp} (h : ClsAt K mg x qual st C names) (S : FnScope N ps (defScope st))
    (hb : ∀ (kV doc pm : Value) (an : Option Addr) (cdv ct : Value) (us : List Value), us.length = ps.length → bindArgs (PySem.W.fnOf "__init__" qual (defArgs st) (defBody st) (defScope st) .none kV doc pm an cdv ct) ⟨us, []⟩ = pure (ps.zip us))
    (len : ∀ vs H Q E, sp vs H Q E → vs.length = ps.length)
    (hbody : ∀ (f : Addr) (cdv : Value) (A : Around) (outer : List Env) (s : Shared) (H : Hp) (vs : List V) (Q : VK) (E : XK), Room k (A.deeper (envOfC qual (defScope st) s.heap.objs.size f cdv)) → sp vs H Q E →
      ∃ t, PSs (cxOf CX0 P w K mg base N qual (defScope st) f cdv A outer s H E).nox (defBody st) t ∧ t { nx := fun _ H' => Q .non H', rt := Q } (start N vs) H) : OkI P w K mg base (k + 1) x C ps sp := by
  obtain ⟨f, fd, M, F⟩ := h.ini
  exact ⟨h.mgC, f, fd, M, F.binds hb, F.ok S len (hbody f)⟩
section
variable {X : Cx} {CX : CXT} {k : Nat} {C : Addr} {m x : Str} {ps : List Str} {sp : Sp} {E : XK} {p pos apos : Pos} {o e : Expr} {es : List Expr} {ta : TE} {t : TA}
/-- o.m(e, ..) -/
theorem pe_m {pl : Sem Bool} (h : OkM X.prog X.w X.K X.mg X.base CX k C m ps sp) (hr : Room k X.A) (hx : Passes CX X E) (ho : PE X o ta) (ha : PA X (e :: es) t)
    (hst : starEach (e :: es) X.env = (false, eval e X.env) :: starEach es X.env := by rfl) (hpl : (backTo pos (starEach es X.env)).any (·.1) = false := by rfl)
    (ht : eval (.Call (.Attribute o m apos) (e :: es) [] pos) X.env = (do
      let ov ← eval o X.env
      standAt apos.atName
      let (f, first) ← holding [ov] (getMethod ov m pl)
      callWith pos f first (backTo pos (starEach (e :: es) X.env)) (backToKw pos (keywordEach [] X.env))) := by rfl) :
    PE X (.Call (.Attribute o m apos) (e :: es) [] pos) (tMeth C m sp [] E ta t) := by
  obtain ⟨f, fd, M, hb, F⟩ := h.ex
  exact pe_meth ho h.cl M F hr hb .nil hx ha hst hpl ht
/-- x(e, ..), a def that may raise -/
theorem pe_fn1 (h : Ok1 X.prog X.w X.K X.mg X.base k x ps sp) (hr : Room k X.A) (hx : Passes (CX1 X.prog X.w) X E) (ha : PA X (e :: es) t) (hg : Gl X x := by rfl) (hdb : (x == ("__debug__" : Str)) = false := by decide)
    (he : starEach (e :: es) X.env = (false, eval e X.env) :: starEach es X.env := by rfl) (hpl : (backTo pos (starEach es X.env)).any (·.1) = false := by rfl) : PE X (.Call (.Name x p) (e :: es) [] pos) (tCall sp [] E t) := by
  obtain ⟨f, fd, h1, h2, h3, h4⟩ := h.ex
  exact pe_call h4 hr hg h1 h2 h3 .nil hx ha hdb he hpl
/-- x(e, ..), x a class -/
theorem pe_mk (h : OkI X.prog X.w X.K X.mg X.base k x C ps sp) (hr : Room (k + 1) X.A) (ha : PA X (e :: es) t) (hg : Gl X x := by rfl) (hdb : (x == ("__debug__" : Str)) = false := by decide)
    (he : starEach (e :: es) X.env = (false, eval e X.env) :: starEach es X.env := by rfl) (hpl : (backTo pos (starEach es X.env)).any (·.1) = false := by rfl) : PE X (.Call (.Name x p) (e :: es) [] pos) (tMake C sp [] E0 t) := by
  obtain ⟨f, fd, M, hb, F⟩ := h.ex
  exact pe_make M F hr hg h.mgC hb .nil pass0 ha hdb he hpl
end
/-! ### lists of naturals -/
def nV (ns : List Nat) : List V := ns.map fun n : Nat => V.int (n : Int)
theorem nV_len (ns : List Nat) : (nV ns).length = ns.length := by simp [nV]
theorem nV_get {ns : List Nat} {i n : Nat} (h : ns[i]? = some n) : (nV ns)[i]? = some (.int (n : Int)) := by
  rw [nV, List.getElem?_map, h]
  rfl
theorem erase_nV : ∀ (ns : List Nat) (i : Nat), (nV ns).eraseIdx i = nV (ns.eraseIdx i)
  | [], _ => rfl
  | _ :: _, 0 => rfl
  | n :: ns, i + 1 => by
    show V.int (n : Int) :: (nV ns).eraseIdx i = V.int (n : Int) :: nV (ns.eraseIdx i)
    rw [erase_nV ns i]
theorem nV_flat (ns : List Nat) : (nV ns).all flatV = true := by simp [nV, flatV]
theorem nV_in (n : Nat) (ns : List Nat) : inV (.int (n : Int)) (nV ns) = ns.contains n := by
  unfold inV nV
  rw [List.any_map, Bool.eq_iff_iff, List.any_eq_true]
  constructor
  · rintro ⟨x, hx, e⟩
    have e' : ((x : Int) == (n : Int)) = true := e
    have : x = n := by have := beq_iff_eq.mp e'; omega
    subst this
    simpa using hx
  · intro h
    exact ⟨n, by simpa using h, by show ((n : Int) == (n : Int)) = true; simp⟩
theorem vals_nV : ∀ {ns : List Nat} {its : List Value}, Vals (nV ns) its → ∀ (i : Nat) (y : Value), its[i]? = some y → ∃ n t, ns[i]? = some n ∧ y = .int (n : Int) t
  | ns, its, r, i, y, h => by
    have hl := r.length
    rw [nV_len] at hl
    have hi : i < ns.length := by rw [hl]; exact (List.getElem?_eq_some_iff.mp h).1
    have e : ns[i]? = some ns[i] := List.getElem?_eq_getElem hi
    obtain ⟨u, hu, ru⟩ := Vals.get r (nV_get e)
    rw [h] at hu
    cases hu
    obtain ⟨t, q⟩ := ru
    exact ⟨ns[i], t, e, q⟩
section
variable {X : Cx}
/-- list.remove(n) of a list of naturals -/
def rRemoveN : V → List V → Hp → VK → Prop := fun x vs H Q => ∃ (l : Addr) (ns : List Nat) (n : Nat), x = .ref l ∧ vs = [.int (n : Int)] ∧ H l = some (.lst (nV ns)) ∧ n ∈ ns ∧ Q .non (upd H l (.lst (nV (ns.erase n))))
theorem mt_removeN : MtM X "list.remove" rRemoveN := by
  intro pins s σ H x vs v us Q I rx rv h
  obtain ⟨l, ns, n, rfl, rfl, hH, hn, q⟩ := h
  cases rx
  obtain ⟨u, rfl, ru⟩ := rv.one
  obtain ⟨tk, rfl⟩ := ru
  obtain ⟨z, its, c, r, hl, e⟩ := I.lstM hH
  rw [nV_len] at z hl
  have hj : ns.idxOf n < ns.length := List.idxOf_lt_length_of_mem hn
  let ev : Value → Bool := fun y => match y with | .int j _ => j == (n : Int) | _ => false
  have hget : ∀ (i : Nat) (hi : i < its.toArray.size), ∃ m t, ns[i]? = some m ∧ its.toArray[i] = .int (m : Int) t := fun i hi => by
    have hi' : i < its.length := by simpa using hi
    obtain ⟨m, t, e1, e2⟩ := vals_nV r i its[i] (List.getElem?_eq_getElem hi')
    exact ⟨m, t, e1, by simpa using e2⟩
  refine call_meets F.slot_list_remove ⟨_, e, rfl⟩ F.entry_list_remove (F.args_list_remove_2 _ _) (MeetsSeq.list_remove l its.toArray c (.int (n : Int) tk) ev (fun y hy => ?_) (ns.idxOf n) (by rw [List.size_toArray]; omega) ?_ (fun m hm hlt => ?_) (by rw [List.size_toArray]; omega)) ⟨e, ?_⟩
  · obtain ⟨i, hi, e1⟩ := Array.mem_iff_getElem.mp hy
    obtain ⟨m, t, _, e2⟩ := hget i hi
    rw [← e1, e2]
    exact MeetsSeq.EqGives.int _ _ _ _
  · obtain ⟨m, t, e1, e2⟩ := hget (ns.idxOf n) (by rw [List.size_toArray]; omega)
    rw [e2]
    have : m = n := by
      rw [List.getElem?_eq_getElem hj, List.getElem_idxOf hj] at e1
      exact (Option.some.inj e1).symm
    show ((m : Int) == (n : Int)) = true
    rw [this]
    simp
  · obtain ⟨k, t, e1, e2⟩ := hget m hm
    rw [e2]
    have hk : k ≠ n := fun z => by
      subst z
      obtain ⟨g1, g2⟩ := List.getElem?_eq_some_iff.mp e1
      have := List.not_of_lt_findIdx (p := (· == k)) (xs := ns) (i := m) hlt
      have this : (ns[m] == k) = false := this
      rw [g2] at this
      simp at this
    show ((k : Int) == (n : Int)) = false
    simp
    omega
  · refine ⟨.non, _, I.lset (its' := its.eraseIdx (ns.idxOf n)) hH e (by rw [List.eraseIdxIfInBounds_toArray]) ?_ ?_, rfl, q⟩
    · rw [List.erase_eq_eraseIdx_of_idxOf rfl]
      have := Vals.eraseIdx (ns.idxOf n) r
      rw [erase_nV] at this
      exact this
    · rw [nV_len, List.length_erase_of_mem hn]
      omega
/-- list.insert(0, y) -/
def rInsert0 : V → List V → Hp → VK → Prop := fun x vs H Q => ∃ l xs y, x = .ref l ∧ vs = [.int 0, y] ∧ H l = some (.lst xs) ∧ xs.length < sizeLine ∧ Q .non (upd H l (.lst (y :: xs)))
theorem mt_insert0 : MtM X "list.insert" rInsert0 := by
  intro pins s σ H x vs v us Q I rx rv h
  obtain ⟨l, xs, y, rfl, rfl, hH, hz, q⟩ := h
  cases rx
  obtain ⟨u1, u2, rfl, r1, r2⟩ := rv.two
  obtain ⟨tk, rfl⟩ := r1
  obtain ⟨z, its, c, r, hl, e⟩ := I.lstM hH
  refine call_meets F.slot_list_insert ⟨_, e, rfl⟩ F.entry_list_insert (F.args_list_insert_3 _ _ _) (AutoListH.list_insert_list_int_val_1 l its.toArray c 0 tk u2 (by decide) (by rw [List.size_toArray]; omega)) ⟨e, ?_⟩
  refine ⟨.non, _, I.lset (its' := u2 :: its) hH e (by simp) (.cons r2 r) ?_, rfl, q⟩
  rw [List.length_cons]
  omega
end
/-- two exception classes of the text -/
theorem exc2_mk {K : PySem.W.Frag} {h : Heap} {mg : Str → Option Value} {x1 x2 : Str} {C1 C2 : Addr} (XX : K.In h) (G : h.Ns mainGlobals mg) (a : PySem.W.nsIn K mainGlobals x1 = some (some (.ref C1))) (b : PySem.W.nsIn K mainGlobals x2 = some (some (.ref C2)))
    (e1 : PySem.W.excIn K C1 [.type "Exception", .type "BaseException", .type "object"] "Exception.__new__" = true) (e2 : PySem.W.excIn K C2 [.type "Exception", .type "BaseException", .type "object"] "Exception.__new__" = true)
    (n1 : PySem.W.exmOne K (.ref C1) (.ref C1) = some true) (n2 : PySem.W.exmOne K (.ref C2) (.ref C1) = some false) (n3 : PySem.W.exmOne K (.ref C2) (.ref C2) = some true) :
    ∃ C1 C2, (mg x1 = some (.ref C1) ∧ mg x2 = some (.ref C2)) ∧ (ExcAt K C1 ∧ ExcAt K C2) ∧ PySem.W.exmOne K (.ref C1) (.ref C1) = some true ∧ PySem.W.exmOne K (.ref C2) (.ref C1) = some false ∧ PySem.W.exmOne K (.ref C2) (.ref C2) = some true :=
  ⟨C1, C2, ⟨PySem.W.mg_of XX G a, PySem.W.mg_of XX G b⟩, ⟨e1, e2⟩, n1, n2, n3⟩
end My
namespace My
open PySem PySem.Spec PyProof.Rows L2
open Kp121 (Part)
/-! ### the text by places -/
def top (i : Nat) : Stmt := PySem.Challenge.pw_longestrun_s03_tt_run.main.body.getD i (.Pass ⟨0, 0, 0, 0⟩)
abbrev s_Kind : Stmt := inClass (top 15) 0
abbrev s_Part : Stmt := inClass (top 16) 0
abbrev s_How : Stmt := inClass (top 17) 0
abbrev s_Measure : Stmt := inClass (top 18) 0
abbrev s_parts_from_numbers : Stmt := top 19
abbrev s_line_of : Stmt := top 20
abbrev s_has_bytes : Stmt := top 21
abbrev s_count_lines : Stmt := top 22
abbrev s_kind_is_right : Stmt := top 23
abbrev s_part_is_right : Stmt := top 24
abbrev s_parts_are_right : Stmt := top 25
abbrev s_measure_part : Stmt := top 26
abbrev s_measure_program : Stmt := top 27
abbrev s_program_is_right : Stmt := top 28
abbrev s_how_is_right : Stmt := top 29
abbrev s_Held : Stmt := inClass (top 31) 0
abbrev s_Held_use : Stmt := inClass (top 31) 1
abbrev s_Run : Stmt := inClass (top 36) 0
abbrev s_Run_choose : Stmt := inClass (top 36) 1
abbrev s_Run_matters : Stmt := inClass (top 36) 2
abbrev s_Run_run : Stmt := inClass (top 36) 3
abbrev s_Run_run_step : Stmt := inClass (top 36) 4
abbrev s_Run_run_loop : Stmt := inClass (top 36) 5
abbrev s_chooses : Stmt := top 37
abbrev s_which_choose : Stmt := top 38
abbrev s_long_of_run : Stmt := top 39
abbrev s_read_how : Stmt := top 44
abbrev s_tt_run : Stmt := top 45
theorem sc_Kind : FnScope ["self", "line", "sets", "ways", "none"] ["self", "line", "sets", "ways", "none"] (defScope s_Kind) := ⟨rfl, rfl, rfl, by decide +kernel, rfl, by decide +kernel, by decide +kernel⟩
theorem sc_Part : FnScope ["self", "kind", "a", "b", "c", "d"] ["self", "kind", "a", "b", "c", "d"] (defScope s_Part) := ⟨rfl, rfl, rfl, by decide +kernel, rfl, by decide +kernel, by decide +kernel⟩
theorem sc_How : FnScope ["self", "code", "data", "code_miss", "data_miss", "none", "parts"] ["self", "code", "data", "code_miss", "data_miss", "none", "parts"] (defScope s_How) := ⟨rfl, rfl, rfl, by decide +kernel, rfl, by decide +kernel, by decide +kernel⟩
theorem sc_Measure : FnScope ["self", "size", "depth", "steps"] ["self", "size", "depth", "steps"] (defScope s_Measure) := ⟨rfl, rfl, rfl, by decide +kernel, rfl, by decide +kernel, by decide +kernel⟩
theorem sc_parts_from_numbers : FnScope ["numbers", "parts", "k"] ["numbers"] (defScope s_parts_from_numbers) := ⟨rfl, rfl, rfl, by decide +kernel, rfl, by decide +kernel, by decide +kernel⟩
theorem sc_line_of : FnScope ["kind", "byte"] ["kind", "byte"] (defScope s_line_of) := ⟨rfl, rfl, rfl, by decide +kernel, rfl, by decide +kernel, by decide +kernel⟩
theorem sc_has_bytes : FnScope ["step"] ["step"] (defScope s_has_bytes) := ⟨rfl, rfl, rfl, by decide +kernel, rfl, by decide +kernel, by decide +kernel⟩
theorem sc_count_lines : FnScope ["kind", "step"] ["kind", "step"] (defScope s_count_lines) := ⟨rfl, rfl, rfl, by decide +kernel, rfl, by decide +kernel, by decide +kernel⟩
theorem sc_kind_is_right : FnScope ["kind"] ["kind"] (defScope s_kind_is_right) := ⟨rfl, rfl, rfl, by decide +kernel, rfl, by decide +kernel, by decide +kernel⟩
theorem sc_part_is_right : FnScope ["part", "place", "data"] ["part", "place", "data"] (defScope s_part_is_right) := ⟨rfl, rfl, rfl, by decide +kernel, rfl, by decide +kernel, by decide +kernel⟩
theorem sc_parts_are_right : FnScope ["parts", "data", "place", "part"] ["parts", "data"] (defScope s_parts_are_right) := ⟨rfl, rfl, rfl, by decide +kernel, rfl, by decide +kernel, by decide +kernel⟩
theorem sc_measure_part : FnScope ["part", "measures", "a", "b", "steps"] ["part", "measures"] (defScope s_measure_part) := ⟨rfl, rfl, rfl, by decide +kernel, rfl, by decide +kernel, by decide +kernel⟩
theorem sc_measure_program : FnScope ["parts", "measures", "part"] ["parts"] (defScope s_measure_program) := ⟨rfl, rfl, rfl, by decide +kernel, rfl, by decide +kernel, by decide +kernel⟩
theorem sc_program_is_right : FnScope ["parts", "program"] ["parts"] (defScope s_program_is_right) := ⟨rfl, rfl, rfl, by decide +kernel, rfl, by decide +kernel, by decide +kernel⟩
theorem sc_how_is_right : FnScope ["how"] ["how"] (defScope s_how_is_right) := ⟨rfl, rfl, rfl, by decide +kernel, rfl, by decide +kernel, by decide +kernel⟩
theorem sc_Held : FnScope ["self", "kind", "number"] ["self", "kind"] (defScope s_Held) := ⟨rfl, rfl, rfl, by decide +kernel, rfl, by decide +kernel, by decide +kernel⟩
theorem sc_Held_use : FnScope ["self", "byte", "line", "lines", "hit"] ["self", "byte"] (defScope s_Held_use) := ⟨rfl, rfl, rfl, by decide +kernel, rfl, by decide +kernel, by decide +kernel⟩
theorem sc_Run : FnScope ["self", "how", "choice"] ["self", "how", "choice"] (defScope s_Run) := ⟨rfl, rfl, rfl, by decide +kernel, rfl, by decide +kernel, by decide +kernel⟩
theorem sc_Run_choose : FnScope ["self", "last"] ["self", "last"] (defScope s_Run_choose) := ⟨rfl, rfl, rfl, by decide +kernel, rfl, by decide +kernel, by decide +kernel⟩
theorem sc_Run_matters : FnScope ["self", "place"] ["self", "place"] (defScope s_Run_matters) := ⟨rfl, rfl, rfl, by decide +kernel, rfl, by decide +kernel, by decide +kernel⟩
theorem sc_Run_run : FnScope ["self", "place", "part"] ["self", "place"] (defScope s_Run_run) := ⟨rfl, rfl, rfl, by decide +kernel, rfl, by decide +kernel, by decide +kernel⟩
theorem sc_Run_run_step : FnScope ["self", "step"] ["self", "step"] (defScope s_Run_run_step) := ⟨rfl, rfl, rfl, by decide +kernel, rfl, by decide +kernel, by decide +kernel⟩
theorem sc_Run_run_loop : FnScope ["self", "loop", "left"] ["self", "loop"] (defScope s_Run_run_loop) := ⟨rfl, rfl, rfl, by decide +kernel, rfl, by decide +kernel, by decide +kernel⟩
theorem sc_chooses : FnScope ["part", "choosing"] ["part", "choosing"] (defScope s_chooses) := ⟨rfl, rfl, rfl, by decide +kernel, rfl, by decide +kernel, by decide +kernel⟩
theorem sc_which_choose : FnScope ["parts", "choosing", "part"] ["parts"] (defScope s_which_choose) := ⟨rfl, rfl, rfl, by decide +kernel, rfl, by decide +kernel, by decide +kernel⟩
theorem sc_long_of_run : FnScope ["how", "choice", "whole"] ["how", "choice"] (defScope s_long_of_run) := ⟨rfl, rfl, rfl, by decide +kernel, rfl, by decide +kernel, by decide +kernel⟩
theorem sc_read_how : FnScope ["code", "data", "code_miss", "data_miss", "none", "part", "code_kind", "data_kind"] ["code", "data", "code_miss", "data_miss", "none", "part"] (defScope s_read_how) := ⟨rfl, rfl, rfl, by decide +kernel, rfl, by decide +kernel, by decide +kernel⟩
theorem sc_tt_run : FnScope ["codeLine", "codeSets", "codeWays", "codeNone", "dataLine", "dataSets", "dataWays", "dataNone", "codeMiss", "dataMiss", "none", "part", "choice", "how"] ["codeLine", "codeSets", "codeWays", "codeNone", "dataLine", "dataSets", "dataWays", "dataNone", "codeMiss", "dataMiss", "none", "part", "choice"] (defScope s_tt_run) := ⟨rfl, rfl, rfl, by decide +kernel, rfl, by decide +kernel, by decide +kernel⟩
/-! ### the data -/
structure Cl (K : PySem.W.Frag) (C : Addr) (names : List Str) : Prop where
  cl : Cls K C
  na : ∀ f ∈ names, NoAttr K C f
  nd : names.Nodup
theorem lookup_zip : ∀ {names : List Str} {us : List V} {i : Nat} {f : Str} {v : V}, names.Nodup → names[i]? = some f → us[i]? = some v → (names.zip us).lookup f = some v
  | [], _, _, _, _, _, h, _ => by simp at h
  | _ :: _, [], _, _, _, _, _, h => by simp at h
  | n :: names, u :: us, 0, f, v, _, h1, h2 => by
    have e1 : n = f := by simpa using h1
    have e2 : u = v := by simpa using h2
    subst e1 e2
    show List.lookup n ((n, u) :: names.zip us) = some u
    simp [List.lookup]
  | n :: names, u :: us, i + 1, f, v, nd, h1, h2 => by
    have h1' : names[i]? = some f := by simpa using h1
    have h2' : us[i]? = some v := by simpa using h2
    have q := List.nodup_cons.mp nd
    have ne : ¬ f = n := fun e => q.1 (e ▸ List.mem_of_getElem? h1')
    have hb : (f == n) = false := beq_eq_false_iff_ne.mpr ne
    show List.lookup f ((n, u) :: names.zip us) = some v
    rw [List.lookup, hb]
    exact lookup_zip q.2 h1' h2'
theorem val_f (i : Nat) {ta : TE} {σ : L2.St} {H : Hp} {v : V} {K : PySem.W.Frag} {a C dx : Addr} {names : List Str} {us : List V} {f : Str} (h : Val ta σ H (.ref a)) (hp : H a = some (.ins C dx (names.zip us))) (c : Cl K C names)
    (e : names[i]? = some f) (l : us[i]? = some v) : Val (tFld K ta f) σ H v := val_fld h hp c.cl (c.na f (List.mem_of_getElem? e)) (lookup_zip c.nd e l)
theorem putF_new (f : Str) (v : V) : ∀ fs : List (Str × V), f ∉ fs.map (·.1) → putF f v fs = fs ++ [(f, v)]
  | [], _ => rfl
  | (g, x) :: r, h => by
    have h1 : ¬ g = f := fun e => h (by simp [e])
    have h2 : f ∉ r.map (·.1) := fun m => h (by simp only [List.map_cons, List.mem_cons]; exact .inr m)
    show (if g = f then (g, v) :: r else (g, x) :: putF f v r) = _
    rw [if_neg h1, putF_new f v r h2]
    rfl
theorem ok_of {P : Program} {w : World} {K : PySem.W.Frag} {mg : Str → Option Value} {base : Heap} {x : Str} {st : Stmt} {N ps : List Str} {k : Nat} {sp : Sp} (D : DefAt K mg x st) (S : FnScope N ps (defScope st))
    (hb : ∀ (kV doc pm : Value) (an : Option Addr) (cdv ct : Value) (us : List Value), us.length = ps.length → bindArgs (PySem.W.fnOf x x (defArgs st) (defBody st) (defScope st) .none kV doc pm an cdv ct) ⟨us, []⟩ = pure (ps.zip us))
    (len : ∀ vs H Q E, sp vs H Q E → vs.length = ps.length)
    (hbody : ∀ (f : Addr) (cdv : Value) (A : Around) (outer : List Env) (s : Shared) (H : Hp) (vs : List V) (Q : VK) (E : XK), Room k (A.deeper (envOfC x (defScope st) s.heap.objs.size f cdv)) → sp vs H Q E →
      ∃ t, PSs (cxOf CX0 P w K mg base N x (defScope st) f cdv A outer s H E).nox (defBody st) t ∧ t { nx := fun _ H' => Q .non H', rt := Q } (start N vs) H) : Ok P w K mg base (k + 1) x ps sp := by
  obtain ⟨f, fd, hm, F⟩ := D
  obtain ⟨oc, od, kV, doc, pm, an, cdv, ct, osl, e, lk, hcd⟩ := F.ex
  exact ⟨f, fd, hm, F.kp, F.binds hb, F.ok S len (hbody f), oc, od, osl, lk⟩
/-! a store in __init__ -/
theorem upd_id {H : Hp} {p : Addr} {o : HO} (h : H p = some o) : upd H p o = H := by
  funext b
  unfold upd
  by_cases e : b = p
  · rw [if_pos e, e, h]
  · rw [if_neg e]
theorem rd_st {K : PySem.W.Frag} {D : Ends} {σ : L2.St} {H : Hp} {p C dx : Addr} {fs : List (Str × V)} {f : Str} {v : V} {ta tv : TE} (c : Cls K C) (n : NoAttr K C f) (hl : fs.length < 1000) (hf : f ∉ fs.map (·.1)) (h1 : Val tv σ (upd H p (.ins C dx fs)) v) (h2 : Val ta σ (upd H p (.ins C dx fs)) (.ref p))
    (q : D.nx σ (upd H p (.ins C dx (fs ++ [(f, v)])))) : sFld K ta tv f D σ (upd H p (.ins C dx fs)) :=
  h1 _ (h2 _ ⟨p, C, dx, fs, rfl, upd_same, c, n, hl, by rw [upd_upd, putF_new f v fs hf]; exact q⟩)
theorem rd_st0 {K : PySem.W.Frag} {D : Ends} {σ : L2.St} {H : Hp} {p C dx : Addr} {f : Str} {v : V} {ta tv : TE} (hp : H p = some (.ins C dx [])) (c : Cls K C) (n : NoAttr K C f) (h1 : Val tv σ H v) (h2 : Val ta σ H (.ref p))
    (q : D.nx σ (upd H p (.ins C dx [(f, v)]))) : sFld K ta tv f D σ H :=
  h1 _ (h2 _ ⟨p, C, dx, [], rfl, hp, c, n, by show 0 < 1000; decide, q⟩)
/-! readings of statements -/
section
variable {t u : TS} {te : TE} {tc : TT} {tr : TA} {D : Ends} {σ : L2.St} {H : Hp} {v : V} {Q : VK}
theorem rd_ret (h : Val te σ H v) (q : D.rt v H) : tRet te D σ H := h _ q
theorem rd_retC (h : te σ H D.rt) : tRet te D σ H := h
theorem rd_set {i : Nat} (h : Val te σ H v) (q : D.nx (σ.set i (some v)) H) : tAsg te (gName i) D σ H := h _ q
theorem rd_setC {i : Nat} (h : te σ H fun x H1 => D.nx (σ.set i (some x)) H1) : tAsg te (gName i) D σ H := h
theorem rd_if {b : Bool} (h : ValT tc σ H b) (q1 : b = true → t D σ H) (q2 : b = false → u D σ H) : tIfS tc t u D σ H := h _ (by
  cases b with
  | true => rw [if_pos rfl]; exact q1 rfl
  | false => rw [if_neg Bool.false_ne_true]; exact q2 rfl)
theorem rd_ifN {b : Bool} (h : ValT tc σ H b) (q1 : b = true → t { D with nx := u D } σ H) (q2 : b = false → u D σ H) : tSeq (tIfS tc t tNext) u D σ H := rd_if h q1 q2
theorem rd_sset {i : Nat} (h : Val te σ H v) (q : u D (σ.set i (some v)) H) : tSeq (tAsg te (gName i)) u D σ H := h _ q
theorem rd_ssetC {i : Nat} (h : te σ H fun x H1 => u D (σ.set i (some x)) H1) : tSeq (tAsg te (gName i)) u D σ H := h
theorem rd_seq (h : t { D with nx := u D } σ H) : tSeq t u D σ H := h
theorem rd_next (h : D.nx σ H) : tNext D σ H := h
theorem rd_call {vs : List V} {R : List V → Hp → (V → Hp → Prop) → Prop} {E : XK} {Po : V → Hp → Prop} (h1 : ValA tr σ H vs) (h2 : R vs H Po) (h3 : ∀ v H', Same H H' → Po v H' → Q v H') : tCall (spN R) [] E tr σ H Q :=
  h1 _ ⟨Po, by rw [List.append_nil]; exact h2, h3⟩
theorem rd_new {vs : List V} {C : Addr} {names : List Str} (h1 : ValA tr σ H vs) (h2 : vs.length = names.length) (h3 : ∀ x dx H2, H x = none → Same H H2 → H2 x = some (.ins C dx (names.zip vs)) → Q (.ref x) H2) : tNew C names tr σ H Q := h1 _ ⟨h2, h3⟩
theorem rd_cons {QA : List V → Hp → Prop} (h : te σ H fun x H1 => tr σ H1 fun xs H2 => QA (x :: xs) H2) : tCons te tr σ H QA := h
theorem rd_consV {QA : List V → Hp → Prop} (h : Val te σ H v) (q : tr σ H fun xs H2 => QA (v :: xs) H2) : tCons te tr σ H QA := h _ q
end
def kindN : List Str := ["line", "sets", "ways", "none"]
def partN : List Str := ["kind", "a", "b", "c", "d"]
def howN : List Str := ["code", "data", "code_miss", "data_miss", "none", "parts"]
def heldN : List Str := ["kind", "held"]
def runN : List Str := ["how", "choice", "taken", "choosing", "made", "long", "code", "data"]
def measN : List Str := ["size", "depth", "steps"]
/-- the addresses that the text has -/
structure Adr where
  CK : Addr
  CP : Addr
  CH : Addr
  CM : Addr
  SC : Addr
  CHe : Addr
  CR : Addr
  CW : Addr
  CT : Addr
structure Txt (K : PySem.W.Frag) (mg : Str → Option Value) (t : Adr) : Prop where
  cK : Cl K t.CK kindN
  cP : Cl K t.CP partN
  cH : Cl K t.CH howN
  cM : Cl K t.CM measN
  sc : ∀ H, SqT K H t.SC [.int 1, .int 2, .int 4, .int 8, .int 16]
  g_FIELDS : Glob mg "FIELDS" (.int 5)
  g_STEP : Glob mg "STEP" (.int 0)
  g_BEHIND : Glob mg "BEHIND" (.int 1)
  g_EITHER : Glob mg "EITHER" (.int 2)
  g_LOOP : Glob mg "LOOP" (.int 3)
  g_SET_COUNTS : Glob mg "SET_COUNTS" (.ref t.SC)
  g_MOST_MISS : Glob mg "MOST_MISS" (.int 65535)
  g_MOST_PARTS : Glob mg "MOST_PARTS" (.int 64)
  g_MOST_STEP_TIME : Glob mg "MOST_STEP_TIME" (.int 65535)
  g_MOST_TIMES : Glob mg "MOST_TIMES" (.int 4096)
  g_MOST_LINES : Glob mg "MOST_LINES" (.int 64)
  g_MOST_SIZE : Glob mg "MOST_SIZE" (.int 1024)
  g_MOST_DEPTH : Glob mg "MOST_DEPTH" (.int 32)
  g_MOST_STEPS : Glob mg "MOST_STEPS" (.int 4294967296)
  g_WRONG_CHOICES : Glob mg "WRONG_CHOICES" (.int (-2))
  g_TOO_MANY_STEPS : Glob mg "TOO_MANY_STEPS" (.int (-28))
  g_MOST_MADE : Glob mg "MOST_MADE" (.int 65536)
  cHe : Cl K t.CHe heldN
  cR : Cl K t.CR runN
  m_WrongChoices : mg "WrongChoices" = some (.ref t.CW)
  m_TooManySteps : mg "TooManySteps" = some (.ref t.CT)
  x_WrongChoices : ExcAt K t.CW
  x_TooManySteps : ExcAt K t.CT
  n11 : PySem.W.exmOne K (.ref t.CW) (.ref t.CW) = some true
  n21 : PySem.W.exmOne K (.ref t.CT) (.ref t.CW) = some false
  n22 : PySem.W.exmOne K (.ref t.CT) (.ref t.CT) = some true
  g_NOT_RIGHT : Glob mg "NOT_RIGHT" (.int (-22))
  b_len : mg "len" = none
  b_max : mg "max" = none
  b_all : mg "all" = none
  b_range : mg "range" = none
  b_enumerate : mg "enumerate" = none
def KindAt (t : Adr) (H : Hp) (a : Addr) (k : Kp120.Kind) : Prop := ∃ dx, H a = some (.ins t.CK dx (kindN.zip [.int k.line, .int k.sets, .int k.ways, .int k.none_]))
def PartAt (t : Adr) (H : Hp) (a : Addr) (p : Part) : Prop := ∃ dx, H a = some (.ins t.CP dx (partN.zip [.int p.kind, .int p.a, .int p.b, .int p.c, .int p.d]))
def MeasAt (t : Adr) (H : Hp) (a : Addr) (m : M3) : Prop := ∃ dx, H a = some (.ins t.CM dx (measN.zip [.int m.1, .int m.2.1, .int m.2.2]))
/-- a list of things that Pr tells -/
def ListAt {α : Type} (Pr : Hp → Addr → α → Prop) (H : Hp) (l : Addr) (xs : List α) : Prop := ∃ as : List Addr, H l = some (.lst (as.map V.ref)) ∧ as.length = xs.length ∧ ∀ (i : Nat) (a : Addr) (x : α), as[i]? = some a → xs[i]? = some x → Pr H a x
theorem KindAt.same {t : Adr} {H H' : Hp} {a : Addr} {k : Kp120.Kind} (h : KindAt t H a k) (s : Same H H') : KindAt t H' a k := let ⟨dx, e⟩ := h; ⟨dx, s _ _ e⟩
theorem PartAt.same {t : Adr} {H H' : Hp} {a : Addr} {k : Part} (h : PartAt t H a k) (s : Same H H') : PartAt t H' a k := let ⟨dx, e⟩ := h; ⟨dx, s _ _ e⟩
theorem MeasAt.same {t : Adr} {H H' : Hp} {a : Addr} {k : M3} (h : MeasAt t H a k) (s : Same H H') : MeasAt t H' a k := let ⟨dx, e⟩ := h; ⟨dx, s _ _ e⟩
theorem ListAt.same {α : Type} {Pr : Hp → Addr → α → Prop} {H H' : Hp} {l : Addr} {xs : List α} (hP : ∀ a x, Pr H a x → Pr H' a x) (h : ListAt Pr H l xs) (s : Same H H') : ListAt Pr H' l xs := by
  obtain ⟨as, e, hl, q⟩ := h
  exact ⟨as, s _ _ e, hl, fun i a x h1 h2 => hP a x (q i a x h1 h2)⟩
theorem ListAt.get {α : Type} {Pr : Hp → Addr → α → Prop} {H : Hp} {l : Addr} {xs : List α} {i : Nat} {x : α} (h : ListAt Pr H l xs) (e : xs[i]? = some x) : ∃ (as : List Addr) (a : Addr), H l = some (.lst (as.map V.ref)) ∧ as.length = xs.length ∧ (as.map V.ref)[i]? = some (.ref a) ∧ Pr H a x := by
  obtain ⟨as, e1, hl, q⟩ := h
  have hi : i < as.length := by rw [hl]; exact (List.getElem?_eq_some_iff.mp e).1
  have e2 : as[i]? = some as[i] := List.getElem?_eq_getElem hi
  exact ⟨as, as[i], e1, hl, by rw [List.getElem?_map, e2]; rfl, q i _ x e2 e⟩
/-- one more at the end -/
theorem ListAt.push {α : Type} {Pr : Hp → Addr → α → Prop} {H : Hp} {l b : Addr} {as : List Addr} {xs : List α} {x : α} (e : H l = some (.lst (as.map V.ref))) (hl : as.length = xs.length) (q : ∀ (i : Nat) (a : Addr) (x : α), as[i]? = some a → xs[i]? = some x → Pr H a x) (hb : Pr H b x)
    (hP : ∀ a y o, Pr H a y → Pr (upd H l o) a y) : ListAt Pr (upd H l (.lst (as.map V.ref ++ [V.ref b]))) l (xs ++ [x]) := by
  refine ⟨as ++ [b], by rw [upd_same, List.map_append]; rfl, by simp [hl], fun i a y h1 h2 => hP a y _ ?_⟩
  by_cases hi : i < as.length
  · rw [List.getElem?_append_left hi] at h1
    rw [List.getElem?_append_left (by omega)] at h2
    exact q i a y h1 h2
  · rw [List.getElem?_append_right (by omega)] at h1
    rw [List.getElem?_append_right (by omega)] at h2
    have hz : i - as.length = 0 := by
      have := (List.getElem?_eq_some_iff.mp h1).1
      simp at this
      omega
    rw [hz] at h1
    rw [show i - xs.length = 0 by omega] at h2
    have e1 : b = a := by simpa using h1
    have e2 : x = y := by simpa using h2
    subst e1 e2
    exact hb
abbrev PartsAt (t : Adr) : Hp → Addr → List Part → Prop := ListAt (PartAt t)
abbrev MeassAt (t : Adr) : Hp → Addr → List M3 → Prop := ListAt (MeasAt t)
theorem PartAt.upd {t : Adr} {H : Hp} {l : Addr} {xs : List V} (e : H l = some (.lst xs)) (a : Addr) (p : Part) (o : HO) (h : PartAt t H a p) : PartAt t (L2.upd H l o) a p := by
  obtain ⟨dx, h⟩ := h
  exact ⟨dx, by rw [upd_ne (ne_of h e (by intro z; cases z))]; exact h⟩
theorem MeasAt.upd {t : Adr} {H : Hp} {l : Addr} {xs : List V} (e : H l = some (.lst xs)) (a : Addr) (p : M3) (o : HO) (h : MeasAt t H a p) : MeasAt t (L2.upd H l o) a p := by
  obtain ⟨dx, h⟩ := h
  exact ⟨dx, by rw [upd_ne (ne_of h e (by intro z; cases z))]; exact h⟩
section
variable {P : Program} {w : World} {K : PySem.W.Frag} {mg : Str → Option Value} {base : Heap} {t : Adr}
/-! ### the classes -/
theorem okc_Kind {C : Addr} (h : ClsAt K mg "Kind" "Kind.__init__" s_Kind C kindN) : OkC P w K mg base 1 "Kind" C kindN := by
  obtain ⟨f, fd, M, F⟩ := h.ini
  refine ⟨h.cl, h.mgC, h.na, f, fd, M, F.binds (fun _ _ _ _ _ _ us hl => match us, hl with | [_, _, _, _, _], _ => rfl), F.ok sc_Kind (fun vs H Q E q => ?_) (fun cdv A outer s H vs Q E hr q => ?_)⟩
  · obtain ⟨p, dx, us, rfl, hl, _⟩ := q
    rw [List.length_cons, hl]
    rfl
  · obtain ⟨p, dx, us, rfl, hl, hp, q⟩ := q
    match us, hl, q with
    | [v0, v1, v2, v3], _, q =>
    refine ⟨_, (pss_cons (ps_fld (pv 0) (pv 1) rfl)
      (pss_cons (ps_fld (pv 0) (pv 2) rfl)
      (pss_cons (ps_fld (pv 0) (pv 3) rfl)
      (pss_one (ps_fld (pv 0) (pv 4) rfl))))), ?_⟩
    refine rd_seq (rd_st0 hp h.cl (h.na "line" (List.mem_of_getElem? (i := 0) rfl)) (val_var rfl) (val_var rfl) ?_)
    refine rd_seq (rd_st h.cl (h.na "sets" (List.mem_of_getElem? (i := 1) rfl)) (by show 1 < 1000; decide) (by show ("sets" : Str) ∉ (["line"] : List Str); decide +kernel) (val_var rfl) (val_var rfl) ?_)
    refine rd_seq (rd_st h.cl (h.na "ways" (List.mem_of_getElem? (i := 2) rfl)) (by show 2 < 1000; decide) (by show ("ways" : Str) ∉ (["line", "sets"] : List Str); decide +kernel) (val_var rfl) (val_var rfl) ?_)
    refine rd_st h.cl (h.na "none" (List.mem_of_getElem? (i := 3) rfl)) (by show 3 < 1000; decide) (by show ("none" : Str) ∉ (["line", "sets", "ways"] : List Str); decide +kernel) (val_var rfl) (val_var rfl) ?_
    exact q
theorem okc_Part {C : Addr} (h : ClsAt K mg "Part" "Part.__init__" s_Part C partN) : OkC P w K mg base 1 "Part" C partN := by
  obtain ⟨f, fd, M, F⟩ := h.ini
  refine ⟨h.cl, h.mgC, h.na, f, fd, M, F.binds (fun _ _ _ _ _ _ us hl => match us, hl with | [_, _, _, _, _, _], _ => rfl), F.ok sc_Part (fun vs H Q E q => ?_) (fun cdv A outer s H vs Q E hr q => ?_)⟩
  · obtain ⟨p, dx, us, rfl, hl, _⟩ := q
    rw [List.length_cons, hl]
    rfl
  · obtain ⟨p, dx, us, rfl, hl, hp, q⟩ := q
    match us, hl, q with
    | [v0, v1, v2, v3, v4], _, q =>
    refine ⟨_, (pss_cons (ps_fld (pv 0) (pv 1) rfl)
      (pss_cons (ps_fld (pv 0) (pv 2) rfl)
      (pss_cons (ps_fld (pv 0) (pv 3) rfl)
      (pss_cons (ps_fld (pv 0) (pv 4) rfl)
      (pss_one (ps_fld (pv 0) (pv 5) rfl)))))), ?_⟩
    refine rd_seq (rd_st0 hp h.cl (h.na "kind" (List.mem_of_getElem? (i := 0) rfl)) (val_var rfl) (val_var rfl) ?_)
    refine rd_seq (rd_st h.cl (h.na "a" (List.mem_of_getElem? (i := 1) rfl)) (by show 1 < 1000; decide) (by show ("a" : Str) ∉ (["kind"] : List Str); decide +kernel) (val_var rfl) (val_var rfl) ?_)
    refine rd_seq (rd_st h.cl (h.na "b" (List.mem_of_getElem? (i := 2) rfl)) (by show 2 < 1000; decide) (by show ("b" : Str) ∉ (["kind", "a"] : List Str); decide +kernel) (val_var rfl) (val_var rfl) ?_)
    refine rd_seq (rd_st h.cl (h.na "c" (List.mem_of_getElem? (i := 3) rfl)) (by show 3 < 1000; decide) (by show ("c" : Str) ∉ (["kind", "a", "b"] : List Str); decide +kernel) (val_var rfl) (val_var rfl) ?_)
    refine rd_st h.cl (h.na "d" (List.mem_of_getElem? (i := 4) rfl)) (by show 4 < 1000; decide) (by show ("d" : Str) ∉ (["kind", "a", "b", "c"] : List Str); decide +kernel) (val_var rfl) (val_var rfl) ?_
    exact q
theorem okc_How {C : Addr} (h : ClsAt K mg "How" "How.__init__" s_How C howN) : OkC P w K mg base 1 "How" C howN := by
  obtain ⟨f, fd, M, F⟩ := h.ini
  refine ⟨h.cl, h.mgC, h.na, f, fd, M, F.binds (fun _ _ _ _ _ _ us hl => match us, hl with | [_, _, _, _, _, _, _], _ => rfl), F.ok sc_How (fun vs H Q E q => ?_) (fun cdv A outer s H vs Q E hr q => ?_)⟩
  · obtain ⟨p, dx, us, rfl, hl, _⟩ := q
    rw [List.length_cons, hl]
    rfl
  · obtain ⟨p, dx, us, rfl, hl, hp, q⟩ := q
    match us, hl, q with
    | [v0, v1, v2, v3, v4, v5], _, q =>
    refine ⟨_, (pss_cons (ps_fld (pv 0) (pv 1) rfl)
      (pss_cons (ps_fld (pv 0) (pv 2) rfl)
      (pss_cons (ps_fld (pv 0) (pv 3) rfl)
      (pss_cons (ps_fld (pv 0) (pv 4) rfl)
      (pss_cons (ps_fld (pv 0) (pv 5) rfl)
      (pss_one (ps_fld (pv 0) (pv 6) rfl))))))), ?_⟩
    refine rd_seq (rd_st0 hp h.cl (h.na "code" (List.mem_of_getElem? (i := 0) rfl)) (val_var rfl) (val_var rfl) ?_)
    refine rd_seq (rd_st h.cl (h.na "data" (List.mem_of_getElem? (i := 1) rfl)) (by show 1 < 1000; decide) (by show ("data" : Str) ∉ (["code"] : List Str); decide +kernel) (val_var rfl) (val_var rfl) ?_)
    refine rd_seq (rd_st h.cl (h.na "code_miss" (List.mem_of_getElem? (i := 2) rfl)) (by show 2 < 1000; decide) (by show ("code_miss" : Str) ∉ (["code", "data"] : List Str); decide +kernel) (val_var rfl) (val_var rfl) ?_)
    refine rd_seq (rd_st h.cl (h.na "data_miss" (List.mem_of_getElem? (i := 3) rfl)) (by show 3 < 1000; decide) (by show ("data_miss" : Str) ∉ (["code", "data", "code_miss"] : List Str); decide +kernel) (val_var rfl) (val_var rfl) ?_)
    refine rd_seq (rd_st h.cl (h.na "none" (List.mem_of_getElem? (i := 4) rfl)) (by show 4 < 1000; decide) (by show ("none" : Str) ∉ (["code", "data", "code_miss", "data_miss"] : List Str); decide +kernel) (val_var rfl) (val_var rfl) ?_)
    refine rd_st h.cl (h.na "parts" (List.mem_of_getElem? (i := 5) rfl)) (by show 5 < 1000; decide) (by show ("parts" : Str) ∉ (["code", "data", "code_miss", "data_miss", "none"] : List Str); decide +kernel) (val_var rfl) (val_var rfl) ?_
    exact q
theorem okc_Measure {C : Addr} (h : ClsAt K mg "Measure" "Measure.__init__" s_Measure C measN) : OkC P w K mg base 1 "Measure" C measN := by
  obtain ⟨f, fd, M, F⟩ := h.ini
  refine ⟨h.cl, h.mgC, h.na, f, fd, M, F.binds (fun _ _ _ _ _ _ us hl => match us, hl with | [_, _, _, _], _ => rfl), F.ok sc_Measure (fun vs H Q E q => ?_) (fun cdv A outer s H vs Q E hr q => ?_)⟩
  · obtain ⟨p, dx, us, rfl, hl, _⟩ := q
    rw [List.length_cons, hl]
    rfl
  · obtain ⟨p, dx, us, rfl, hl, hp, q⟩ := q
    match us, hl, q with
    | [v0, v1, v2], _, q =>
    refine ⟨_, (pss_cons (ps_fld (pv 0) (pv 1) rfl)
      (pss_cons (ps_fld (pv 0) (pv 2) rfl)
      (pss_one (ps_fld (pv 0) (pv 3) rfl)))), ?_⟩
    refine rd_seq (rd_st0 hp h.cl (h.na "size" (List.mem_of_getElem? (i := 0) rfl)) (val_var rfl) (val_var rfl) ?_)
    refine rd_seq (rd_st h.cl (h.na "depth" (List.mem_of_getElem? (i := 1) rfl)) (by show 1 < 1000; decide) (by show ("depth" : Str) ∉ (["size"] : List Str); decide +kernel) (val_var rfl) (val_var rfl) ?_)
    refine rd_st h.cl (h.na "steps" (List.mem_of_getElem? (i := 2) rfl)) (by show 2 < 1000; decide) (by show ("steps" : Str) ∉ (["size", "depth"] : List Str); decide +kernel) (val_var rfl) (val_var rfl) ?_
    exact q
end
end My
namespace My
open PySem PySem.Spec PyProof.Rows L2
open Kp121 (Part)
section
variable {P : Program} {w : World} {K : PySem.W.Frag} {mg : Str → Option Value} {base : Heap} {t : Adr}
/-! ### defs that only read -/
def R_line_of (t : Adr) : List V → Hp → V → Prop := fun vs H v => ∃ a k x, vs = [.ref a, .int ((x : Nat) : Int)] ∧ KindAt t H a k ∧ v = .int ((Kp120.lineOf k x : Nat) : Int)
theorem ok_line_of (D : DefAt K mg "line_of" s_line_of) (T : Txt K mg t) : Ok P w K mg base 1 "line_of" ["kind", "byte"] (spV (R_line_of t)) := by
  refine ok_of D sc_line_of (fun _ _ _ _ _ _ us hl => match us, hl with | [_, _], _ => rfl) (fun vs H Q E h => ?_) (fun f cdv A outer s H vs Q E hr h => ?_)
  · obtain ⟨v, ⟨a, k, x, rfl, _⟩, _⟩ := h
    rfl
  · obtain ⟨v, ⟨a, k, x, rfl, ⟨dx, hk⟩, rfl⟩, q⟩ := h
    refine ⟨_, (pss_one (ps_ret (pe_op op_shr (pv 1) (pe_fld (pv 0) rfl)))), ?_⟩
    refine rd_ret (val_I (val_var rfl) (val_f 0 (val_var rfl) hk T.cK rfl rfl) (Int.natCast_nonneg _)) ?_
    rw [line_eq]
    exact q
def R_has_bytes (t : Adr) : List V → Hp → V → Prop := fun vs H v => ∃ a p, vs = [.ref a] ∧ PartAt t H a p ∧ v = .bl (decide ((p.c : Int) ≤ (p.d : Int)))
theorem ok_has_bytes (D : DefAt K mg "has_bytes" s_has_bytes) (T : Txt K mg t) : Ok P w K mg base 1 "has_bytes" ["step"] (spV (R_has_bytes t)) := by
  refine ok_of D sc_has_bytes (fun _ _ _ _ _ _ us hl => match us, hl with | [_], _ => rfl) (fun vs H Q E h => ?_) (fun f cdv A outer s H vs Q E hr h => ?_)
  · obtain ⟨v, ⟨a, p, rfl, _⟩, _⟩ := h
    rfl
  · obtain ⟨v, ⟨a, p, rfl, ⟨dx, hp⟩, rfl⟩, q⟩ := h
    refine ⟨_, (pss_one (ps_ret (pe_cmpR op_le (pe_fld (pv 0) rfl) (pe_fld (pv 0) rfl) (nomark _)))), ?_⟩
    exact rd_ret (val_I0 (val_f 3 (val_var rfl) hp T.cP rfl rfl) (val_f 4 (val_var rfl) hp T.cP rfl rfl)) q
def R_count_lines (t : Adr) : List V → Hp → V → Prop := fun vs H v => ∃ ka k a p, vs = [.ref ka, .ref a] ∧ KindAt t H ka k ∧ PartAt t H a p ∧ v = .int (cntL k p)
theorem ok_count_lines (D : DefAt K mg "count_lines" s_count_lines) (T : Txt K mg t) (o_line_of : Ok P w K mg base 1 "line_of" ["kind", "byte"] (spV (R_line_of t))) (o_has_bytes : Ok P w K mg base 1 "has_bytes" ["step"] (spV (R_has_bytes t))) :
    Ok P w K mg base 2 "count_lines" ["kind", "step"] (spV (R_count_lines t)) := by
  refine ok_of D sc_count_lines (fun _ _ _ _ _ _ us hl => match us, hl with | [_, _], _ => rfl) (fun vs H Q E h => ?_) (fun f cdv A outer s H vs Q E hr h => ?_)
  · obtain ⟨v, ⟨ka, k, a, p, rfl, _⟩, _⟩ := h
    rfl
  · obtain ⟨v, ⟨ka, k, a, p, rfl, hk, hp, rfl⟩, q⟩ := h
    have hk' := hk
    have hp' := hp
    obtain ⟨dk, hk'⟩ := hk'
    obtain ⟨dp, hp'⟩ := hp'
    refine ⟨_, (pss_cons (ps_if (pt_not (pt_val (pe_fn o_has_bytes (hr.mono (by omega)) (pa_cons (pv 1) pa_nil))))
        (pss_one (ps_ret pe_int))
        pss_nil)
      (pss_one (ps_ret (pe_op op_add (pe_op op_sub (pe_fn o_line_of (hr.mono (by omega)) (pa_cons (pv 0) (pa_cons (pe_fld (pv 1) rfl) pa_nil))) (pe_fn o_line_of (hr.mono (by omega)) (pa_cons (pv 0) (pa_cons (pe_fld (pv 1) rfl) pa_nil)))) pe_int)))), ?_⟩
    refine rd_ifN (vt_not (vt_b (val_call (va_cons (val_var rfl) va_nil) ⟨a, p, rfl, hp, rfl⟩))) (fun e => ?_) (fun e => ?_)
    · refine rd_ret val_c ?_
      have hc : ¬ p.c ≤ p.d := by
        intro z
        rw [decide_eq_true (show (p.c : Int) ≤ (p.d : Int) by omega)] at e
        cases e
      unfold cntL at q
      rw [if_neg hc] at q
      exact q
    · have hc : p.c ≤ p.d := by
        have e' : decide ((p.c : Int) ≤ (p.d : Int)) = true := by
          cases z : decide ((p.c : Int) ≤ (p.d : Int)) with
          | true => rfl
          | false => rw [z] at e; cases e
        have := of_decide_eq_true e'
        omega
      refine rd_ret (val_I0 (val_I0 (val_call (va_cons (val_var rfl) (va_cons (val_f 4 (val_var rfl) hp' T.cP rfl rfl) va_nil)) ⟨ka, k, p.d, rfl, hk, rfl⟩) (val_call (va_cons (val_var rfl) (va_cons (val_f 3 (val_var rfl) hp' T.cP rfl rfl) va_nil)) ⟨ka, k, p.c, rfl, hk, rfl⟩)) val_c) ?_
      unfold cntL at q
      rw [if_pos hc] at q
      exact q
def R_kind_is_right (t : Adr) : List V → Hp → V → Prop := fun vs H v => ∃ a k, vs = [.ref a] ∧ KindAt t H a k ∧ v = .bl (Kp120.goodKind k)
theorem ok_kind_is_right (D : DefAt K mg "kind_is_right" s_kind_is_right) (T : Txt K mg t) : Ok P w K mg base 1 "kind_is_right" ["kind"] (spV (R_kind_is_right t)) := by
  refine ok_of D sc_kind_is_right (fun _ _ _ _ _ _ us hl => match us, hl with | [_], _ => rfl) (fun vs H Q E h => ?_) (fun f cdv A outer s H vs Q E hr h => ?_)
  · obtain ⟨v, ⟨a, k, rfl, _⟩, _⟩ := h
    rfl
  · obtain ⟨v, ⟨a, k, rfl, ⟨dx, hk⟩, rfl⟩, q⟩ := h
    refine ⟨_, (pss_one (ps_ret (pe_and (pe_chain op_le op_le pe_int (pe_fld (pv 0) rfl) pe_int) (pe_and (pe_cmpR op_in_seq (pe_fld (pv 0) rfl) (pe_gl T.g_SET_COUNTS) (by with_unfolding_all rfl)) (pe_and (pe_chain op_le op_le pe_int (pe_fld (pv 0) rfl) pe_int) (pe_one (pe_cmpR op_eq (pe_fld (pv 0) rfl) pe_int (nomark _)))))))), ?_⟩
    refine rd_ret (val_and (val_chain val_c (val_f 0 (val_var rfl) hk T.cK rfl rfl) val_c) (fun _ => val_and (val_inT (val_f 1 (val_var rfl) hk T.cK rfl rfl) val_c (T.sc H) rfl rfl)
      (fun _ => val_and (val_chain val_c (val_f 2 (val_var rfl) hk T.cK rfl rfl) val_c) (fun _ => val_eqI (val_f 3 (val_var rfl) hk T.cK rfl rfl) val_c)))) ?_
    rw [← gk_eq] at q
    exact q
def R_part_is_right (t : Adr) : List V → Hp → V → Prop := fun vs H v => ∃ a p i ka k, vs = [.ref a, .int ((i : Nat) : Int), .ref ka] ∧ PartAt t H a p ∧ KindAt t H ka k ∧ v = .bl (goodP k i p)
theorem nat_of_dec {a b : Nat} (e : decide ((a : Int) = (b : Int)) = true) : a = b := by
  have := of_decide_eq_true e
  omega
theorem nat_of_ndec {a b : Nat} (e : decide ((a : Int) = (b : Int)) = false) : ¬ a = b := by
  have := of_decide_eq_false e
  omega
theorem ok_part_is_right (D : DefAt K mg "part_is_right" s_part_is_right) (T : Txt K mg t) (o_count_lines : Ok P w K mg base 2 "count_lines" ["kind", "step"] (spV (R_count_lines t))) :
    Ok P w K mg base 3 "part_is_right" ["part", "place", "data"] (spV (R_part_is_right t)) := by
  refine ok_of D sc_part_is_right (fun _ _ _ _ _ _ us hl => match us, hl with | [_, _, _], _ => rfl) (fun vs H Q E h => ?_) (fun f cdv A outer s H vs Q E hr h => ?_)
  · obtain ⟨v, ⟨a, p, i, ka, k, rfl, _⟩, _⟩ := h
    rfl
  · obtain ⟨v, ⟨a, p, i, ka, k, rfl, hp0, hk, rfl⟩, q⟩ := h
    have hp := hp0
    obtain ⟨dx, hp⟩ := hp
    refine ⟨_, (pss_cons (ps_if (pt_cmpR op_eq (pe_fld (pv 0) rfl) (pe_gl T.g_STEP) (nomark _))
        (pss_one (ps_ret (pe_and (pe_cmpR op_le (pe_fld (pv 0) rfl) (pe_gl T.g_MOST_STEP_TIME) (nomark _)) (pe_one (pe_cmpR op_le (pe_fn o_count_lines (hr.mono (by omega)) (pa_cons (pv 2) (pa_cons (pv 0) pa_nil))) (pe_gl T.g_MOST_LINES) (nomark _))))))
        pss_nil)
      (pss_cons (ps_if (PW.pt (pw_or (pt_cmpR op_eq (pe_fld (pv 0) rfl) (pe_gl T.g_BEHIND) (nomark _)) (pw_or1 (pt_cmpR op_eq (pe_fld (pv 0) rfl) (pe_gl T.g_EITHER) (nomark _)))))
        (pss_one (ps_ret (pe_and (pe_cmpR op_lt (pe_fld (pv 0) rfl) (pv 1) (nomark _)) (pe_one (pe_cmpR op_lt (pe_fld (pv 0) rfl) (pv 1) (nomark _))))))
        pss_nil)
      (pss_cons (ps_if (pt_cmpR op_eq (pe_fld (pv 0) rfl) (pe_gl T.g_LOOP) (nomark _))
        (pss_one (ps_ret (pe_and (pe_cmpR op_lt (pe_fld (pv 0) rfl) (pv 1) (nomark _)) (pe_one (pe_cmpR op_le (pe_fld (pv 0) rfl) (pe_gl T.g_MOST_TIMES) (nomark _))))))
        pss_nil)
      (pss_one (ps_ret pe_bl))))), ?_⟩
    refine rd_ifN (vt_test (val_eqI (val_f 0 (val_var rfl) hp T.cP rfl rfl) val_c)) (fun e => ?_) (fun e0 => ?_)
    · have e := nat_of_dec (b := 0) e
      refine rd_ret (val_and (val_I0 (val_f 2 (val_var rfl) hp T.cP rfl rfl) val_c) (fun _ => val_I0 (val_call (va_cons (val_var rfl) (va_cons (val_var rfl) va_nil)) ⟨ka, k, a, p, rfl, hk, hp0, rfl⟩) val_c)) ?_
      rw [← goodP_step e] at q
      exact q
    · have e0 := nat_of_ndec (b := 0) e0
      refine rd_ifN (vt_or (vt_test (val_eqI (val_f 0 (val_var rfl) hp T.cP rfl rfl) val_c)) (fun _ => vt_test (val_eqI (val_f 0 (val_var rfl) hp T.cP rfl rfl) val_c))) (fun e => ?_) (fun e1 => ?_)
      · have e : p.kind = 1 ∨ p.kind = 2 := by
          rcases (Bool.or_eq_true _ _).mp e with z | z
          · exact .inl (nat_of_dec (b := 1) z)
          · exact .inr (nat_of_dec (b := 2) z)
        refine rd_ret (val_and (val_I0 (val_f 1 (val_var rfl) hp T.cP rfl rfl) (val_var rfl)) (fun _ => val_I0 (val_f 2 (val_var rfl) hp T.cP rfl rfl) (val_var rfl))) ?_
        rw [← goodP_two e] at q
        exact q
      · have e1 : ¬ (p.kind = 1 ∨ p.kind = 2) := by
          rw [Bool.or_eq_false_iff] at e1
          rintro (z | z)
          · exact nat_of_ndec (b := 1) e1.1 z
          · exact nat_of_ndec (b := 2) e1.2 z
        refine rd_ifN (vt_test (val_eqI (val_f 0 (val_var rfl) hp T.cP rfl rfl) val_c)) (fun e => ?_) (fun e2 => ?_)
        · have e := nat_of_dec (b := 3) e
          refine rd_ret (val_and (val_I0 (val_f 1 (val_var rfl) hp T.cP rfl rfl) (val_var rfl)) (fun _ => val_I0 (val_f 2 (val_var rfl) hp T.cP rfl rfl) val_c)) ?_
          rw [← goodP_loop e] at q
          exact q
        · have e2 := nat_of_ndec (b := 3) e2
          refine rd_ret val_c ?_
          rw [← goodP_no e0 e1 e2] at q
          exact q
/-! ### defs that make things -/
def R_measure_part (t : Adr) : List V → Hp → (V → Hp → Prop) → Prop := fun vs H Po => ∃ a p l ms, vs = [.ref a, .ref l] ∧ PartAt t H a p ∧ MeassAt t H l ms ∧ canMeas ms.length p ∧ Po = fun v H' => ∃ b, v = .ref b ∧ H b = none ∧ MeasAt t H' b (meas ms p)
theorem MeasAt.new {t : Adr} {H2 : Hp} {x dx : Addr} {m : M3} {vs : List V} (e : H2 x = some (.ins t.CM dx (measN.zip vs))) (h : vs = [.int m.1, .int m.2.1, .int m.2.2]) : MeasAt t H2 x m := ⟨dx, by rw [e, h]⟩
theorem ok_measure_part (D : DefAt K mg "measure_part" s_measure_part) (T : Txt K mg t) (o_Measure : OkC P w K mg base 1 "Measure" t.CM measN) :
    Ok P w K mg base 3 "measure_part" ["part", "measures"] (spN (R_measure_part t)) := by
  refine ok_of D sc_measure_part (fun _ _ _ _ _ _ us hl => match us, hl with | [_, _], _ => rfl) (fun vs H Q E h => ?_) (fun f cdv A outer s H vs Q E hr h => ?_)
  · obtain ⟨Po, ⟨a, p, l, ms, rfl, _⟩, _⟩ := h
    rfl
  · obtain ⟨Po, ⟨a, p, l, ms, rfl, ⟨dx, hp⟩, hm, hc, rfl⟩, q⟩ := h
    refine ⟨_, (pss_cons (ps_if (pt_cmpR op_eq (pe_fld (pv 0) rfl) (pe_gl T.g_STEP) (nomark _))
        (pss_one (ps_ret (pe_new o_Measure (hr.mono (by omega)) (pa_cons pe_int (pa_cons pe_int (pa_cons pe_int pa_nil))))))
        pss_nil)
      (pss_cons (ps_set (i := 2) sc_measure_part.nd rfl (Or.inl rfl) (pe_ix ix_list (pv 1) (pe_fld (pv 0) rfl) (fun _ _ => rfl)))
      (pss_cons (ps_if (pt_cmpR op_eq (pe_fld (pv 0) rfl) (pe_gl T.g_LOOP) (nomark _))
        (pss_one (ps_ret (pe_new o_Measure (hr.mono (by omega)) (pa_cons (pe_op op_add (pe_op op_mul pe_int (pe_fld (pv 2) rfl)) pe_int) (pa_cons (pe_op op_add (pe_fld (pv 2) rfl) pe_int) (pa_cons (pe_op op_mul (pe_fld (pv 0) rfl) (pe_fld (pv 2) rfl)) pa_nil))))))
        pss_nil)
      (pss_cons (ps_set (i := 3) sc_measure_part.nd rfl (Or.inl rfl) (pe_ix ix_list (pv 1) (pe_fld (pv 0) rfl) (fun _ _ => rfl)))
      (pss_cons (ps_set (i := 4) sc_measure_part.nd rfl (Or.inl rfl) (pe_ifExp (pt_cmpR op_eq (pe_fld (pv 0) rfl) (pe_gl T.g_BEHIND) (nomark _)) (pe_op op_add (pe_fld (pv 2) rfl) (pe_fld (pv 3) rfl)) (pe_callB (call_max2 rfl) (by rfl) T.b_max PyProof.Rows.boot_max (pa_cons (pe_fld (pv 2) rfl) (pa_cons (pe_fld (pv 3) rfl) pa_nil)))))
      (pss_one (ps_ret (pe_new o_Measure (hr.mono (by omega)) (pa_cons (pe_op op_add (pe_op op_add (pe_fld (pv 2) rfl) (pe_fld (pv 3) rfl)) pe_int) (pa_cons (pe_op op_add (pe_callB (call_max2 rfl) (by rfl) T.b_max PyProof.Rows.boot_max (pa_cons (pe_fld (pv 2) rfl) (pa_cons (pe_fld (pv 3) rfl) pa_nil))) pe_int) (pa_cons (pv 4) pa_nil))))))))))), ?_⟩
    refine rd_ifN (vt_test (val_eqI (val_f 0 (val_var rfl) hp T.cP rfl rfl) val_c)) (fun e => ?_) (fun e0 => ?_)
    · have e := nat_of_dec (b := 0) e
      refine rd_retC (rd_new (va_cons val_c (va_cons val_c (va_cons val_c va_nil))) rfl fun x dx2 H2 nx s2 ex => ?_)
      exact q _ _ s2 ⟨x, rfl, nx, MeasAt.new ex (by rw [meas_step e]; rfl)⟩
    · have e0 := nat_of_ndec (b := 0) e0
      have ha : p.a < ms.length := by
        rcases hc with z | z | z
        · exact absurd z e0
        · exact z.2.1
        · exact z.2.1
      have ea : ms[p.a]? = some ms[p.a] := List.getElem?_eq_getElem ha
      obtain ⟨as, xa, el, _, exa, ⟨dxa, hxa⟩⟩ := hm.get ea
      refine rd_sset (val_ix (val_var rfl) (val_f 1 (val_var rfl) hp T.cP rfl rfl) (SqL.of el) (atI_nat exa)) ?_
      refine rd_ifN (vt_test (val_eqI (val_f 0 (val_var rfl) hp T.cP rfl rfl) val_c)) (fun e => ?_) (fun e3 => ?_)
      · have e := nat_of_dec (b := 3) e
        have hb : p.b ≤ 4096 := by
          rcases hc with z | z | z
          · exact absurd z e0
          · exact z.2.2
          · omega
        refine rd_retC (rd_new (va_cons (val_I0 (val_I val_c (val_f 0 (val_var rfl) hxa T.cM rfl rfl) (.inl ⟨by decide, by decide⟩)) val_c) (va_cons (val_I0 (val_f 1 (val_var rfl) hxa T.cM rfl rfl) val_c)
          (va_cons (val_I (val_f 2 (val_var rfl) hp T.cP rfl rfl) (val_f 2 (val_var rfl) hxa T.cM rfl rfl) (.inl ⟨by omega, by omega⟩)) va_nil))) rfl fun x dx2 H2 nx s2 ex => ?_)
        refine q _ _ s2 ⟨x, rfl, nx, MeasAt.new ex ?_⟩
        rw [meas_loop e ea, Int.natCast_mul]
        rfl
      · have e3 := nat_of_ndec (b := 3) e3
        have hk : (p.kind = 1 ∨ p.kind = 2) ∧ p.b < ms.length := by
          rcases hc with z | z | z
          · exact absurd z e0
          · exact absurd z.1 e3
          · exact ⟨z.1, z.2.2⟩
        have eb : ms[p.b]? = some ms[p.b] := List.getElem?_eq_getElem hk.2
        obtain ⟨as', xb, el', _, exb, ⟨dxb, hxb⟩⟩ := hm.get eb
        refine rd_sset (val_ix (val_var rfl) (val_f 2 (val_var rfl) hp T.cP rfl rfl) (SqL.of el') (atI_nat exb)) ?_
        refine rd_sset (val_ife (vt_test (val_eqI (val_f 0 (val_var rfl) hp T.cP rfl rfl) val_c)) (fun _ => val_I0 (val_f 2 (val_var rfl) hxa T.cM rfl rfl) (val_f 2 (val_var rfl) hxb T.cM rfl rfl))
          (fun _ => val_cb (va_cons (val_f 2 (val_var rfl) hxa T.cM rfl rfl) (va_cons (val_f 2 (val_var rfl) hxb T.cM rfl rfl) va_nil)) fun Q q => ⟨_, _, rfl, q⟩)) ?_
        have es : (if decide ((p.kind : Int) = 1) = true then V.int ((ms[p.a].2.2 : Int) + (ms[p.b].2.2 : Int)) else V.int (if (ms[p.b].2.2 : Int) > (ms[p.a].2.2 : Int) then (ms[p.b].2.2 : Int) else (ms[p.a].2.2 : Int))) =
            V.int ((if p.kind = 1 then ms[p.a].2.2 + ms[p.b].2.2 else max ms[p.a].2.2 ms[p.b].2.2 : Nat) : Int) := by
          rw [max_eq]
          by_cases h1 : p.kind = 1
          · rw [if_pos h1, if_pos (decide_eq_true (by omega))]
            rfl
          · rw [if_neg h1, if_neg (by simp; omega)]
        refine rd_retC (rd_new (va_cons (val_I0 (val_I0 (val_f 0 (val_var rfl) hxa T.cM rfl rfl) (val_f 0 (val_var rfl) hxb T.cM rfl rfl)) val_c)
          (va_cons (val_I0 (val_cb (va_cons (val_f 1 (val_var rfl) hxa T.cM rfl rfl) (va_cons (val_f 1 (val_var rfl) hxb T.cM rfl rfl) va_nil)) fun Q q => ⟨_, _, rfl, q⟩) val_c) (va_cons (val_var rfl) va_nil))) rfl fun x dx2 H2 nx s2 ex => ?_)
        refine q _ _ s2 ⟨x, rfl, nx, MeasAt.new ex ?_⟩
        rw [meas_two hk.1 ea eb]
        show [V.int _, V.int _, _] = [V.int _, V.int _, V.int _]
        rw [es, max_eq]
        rfl
end
end My
namespace My
open PySem PySem.Spec PyProof.Rows L2
open Kp121 (Part)
section
variable {t : TS} {tr : TA} {D : Ends} {σ : L2.St} {H : Hp} {v : V} {Q : VK} {g : TG} {tb : TS} {tl : TE} {k : Nat} {K : PySem.W.Frag}
theorem rd_forC {i j c : Int} {n : Nat} (h : ValA tr σ H [.int i, .int j, .int c]) (r : RgC i j c n) (Pv : Nat → L2.St → Hp → Prop) (h0 : Pv 0 σ H)
    (hs : ∀ m σ H, m < n → Pv m σ H → g (.int (i + (m : Nat) * c)) σ H fun σ2 H2 => tb { D with nx := Pv (m + 1), ct := Pv (m + 1), bk := D.nx } σ2 H2) (hd : ∀ σ H, Pv n σ H → D.nx σ H) : tFor (iRng3 tr) g tb D σ H :=
  h _ ⟨i, j, c, n, rfl, r, for_rangeC Pv h0 hs hd⟩
theorem rd_forL {a : Addr} {xs : List V} (h : Val tl σ H (.ref a)) (hx : SqL K H a xs) (Pv : Nat → L2.St → Hp → Prop) (h0 : Pv 0 σ H) (hl : ∀ i σ H, i ≤ xs.length → Pv i σ H → SqL K H a xs)
    (hs : ∀ i x σ H, xs[i]? = some x → Pv i σ H → g x σ H fun σ2 H2 => tb { D with nx := Pv (i + 1), ct := Pv (i + 1), bk := D.nx } σ2 H2) (hd : ∀ σ H, Pv xs.length σ H → D.nx σ H) : tFor (iList K tl) g tb D σ H :=
  h _ ⟨a, rfl, ⟨xs, hx⟩, for_list Pv h0 hl hs hd⟩
theorem rd_sforC {u : TS} {i j c : Int} {n : Nat} (h : ValA tr σ H [.int i, .int j, .int c]) (r : RgC i j c n) (Pv : Nat → L2.St → Hp → Prop) (h0 : Pv 0 σ H)
    (hs : ∀ m σ H, m < n → Pv m σ H → tb { D with nx := Pv (m + 1), ct := Pv (m + 1), bk := u D } (σ.set k (some (.int (i + (m : Nat) * c)))) H) (hd : ∀ σ H, Pv n σ H → u D σ H) : tSeq (tFor (iRng3 tr) (gName k) tb) u D σ H :=
  rd_forC (D := { D with nx := u D }) h r Pv h0 hs hd
theorem rd_sforL {u : TS} {a : Addr} {xs : List V} (h : Val tl σ H (.ref a)) (hx : SqL K H a xs) (Pv : Nat → L2.St → Hp → Prop) (h0 : Pv 0 σ H) (hl : ∀ i σ H, i ≤ xs.length → Pv i σ H → SqL K H a xs)
    (hs : ∀ i x σ H, xs[i]? = some x → Pv i σ H → tb { D with nx := Pv (i + 1), ct := Pv (i + 1), bk := u D } (σ.set k (some x)) H) (hd : ∀ σ H, Pv xs.length σ H → u D σ H) : tSeq (tFor (iList K tl) (gName k) tb) u D σ H :=
  rd_forL (D := { D with nx := u D }) h hx Pv h0 hl hs hd
theorem rd_newC {C : Addr} {names : List Str} (h : tr σ H fun vs H1 => vs.length = names.length ∧ ∀ x dx H2, H1 x = none → Same H1 H2 → H2 x = some (.ins C dx (names.zip vs)) → Q (.ref x) H2) : tNew C names tr σ H Q := h
theorem rd_lst (h : tr σ H fun xs H1 => xs.length ≤ sizeLine ∧ ∀ p, H1 p = none → Q (.ref p) (upd H1 p (.lst xs))) : tLst tr σ H Q := h
theorem rd_lst0 (h : ∀ p, H p = none → Q (.ref p) (upd H p (.lst []))) : tLst tNil σ H Q := ⟨Nat.zero_le _, h⟩
/-- l.append(..) -/
theorem rd_append {l : Addr} {to : TE} (h : Val to σ H (.ref l)) (hl : ∃ xs, SqL K H l xs) (h2 : tr σ H fun vs H2 => ∃ xs y, vs = [y] ∧ H2 l = some (.lst xs) ∧ xs.length < sizeLine ∧ D.nx σ (upd H2 l (.lst (xs ++ [y])))) (hm : ∀ Q Q' : List V → Hp → Prop, (∀ vs H2, Q vs H2 → Q' vs H2) → tr σ H Q → tr σ H Q') :
    tDrop (tBM K "list" rAppend to tr) D σ H := by
  refine h _ ⟨.inl ⟨rfl, hl⟩, hm _ _ (fun vs H2 q => ?_) h2⟩
  obtain ⟨xs, y, e1, e2, e3, q⟩ := q
  exact ⟨l, xs, y, rfl, e1, e2, e3, q⟩
end
theorem rd_callC {tr : TA} {σ : L2.St} {H : Hp} {Q : VK} {R : List V → Hp → (V → Hp → Prop) → Prop} {E : XK} (h : tr σ H fun vs H1 => ∃ Po, R vs H1 Po ∧ ∀ v H', Same H1 H' → Po v H' → Q v H') (hm : ∀ Q Q' : List V → Hp → Prop, (∀ vs H2, Q vs H2 → Q' vs H2) → tr σ H Q → tr σ H Q') : tCall (spN R) [] E tr σ H Q :=
  hm _ _ (fun vs H1 ⟨Po, h1, h2⟩ => ⟨Po, by rw [List.append_nil]; exact h1, h2⟩) h
theorem rd_yes {σ : L2.St} {H : Hp} {F G : Hp → Prop} (h : F H) : tYes σ H (fun b H3 => if b = true then F H3 else G H3) := iteT (B := G H) h
theorem atI_neg1 {xs : List V} {v : V} (h : xs[xs.length - 1]? = some v) (h1 : 1 ≤ xs.length) : atI xs (-1) = some v := by
  unfold atI ixN
  rw [if_neg (by decide), if_pos (by omega)]
  show xs[(-1 + (xs.length : Int)).toNat]? = some v
  rw [show (-1 + (xs.length : Int)).toNat = xs.length - 1 by omega]
  exact h
theorem small100 {n : Nat} (h : n ≤ 100) : n < sizeLine := Nat.lt_of_le_of_lt h (by decide)
section
variable {P : Program} {w : World} {K : PySem.W.Frag} {mg : Str → Option Value} {base : Heap} {t : Adr}
theorem PartsAt.same {H H' : Hp} {l : Addr} {ps : List Part} (h : PartsAt t H l ps) (s : Same H H') : PartsAt t H' l ps := ListAt.same (fun _ _ z => z.same s) h s
theorem MeassAt.same {H H' : Hp} {l : Addr} {ps : List M3} (h : MeassAt t H l ps) (s : Same H H') : MeassAt t H' l ps := ListAt.same (fun _ _ z => z.same s) h s
def R_parts_from_numbers (K : PySem.W.Frag) (t : Adr) : List V → Hp → (V → Hp → Prop) → Prop := fun vs H Po => ∃ a ns n, vs = [.ref a] ∧ SqL K H a (ns.map V.int) ∧ ns.length = 5 * n ∧ n ≤ 80 ∧ (∀ x ∈ ns, 0 ≤ x) ∧ Po = fun v H' => ∃ l, v = .ref l ∧ PartsAt t H' l (partsOf ns)
theorem ok_parts_from_numbers (D : DefAt K mg "parts_from_numbers" s_parts_from_numbers) (T : Txt K mg t) (o_Part : OkC P w K mg base 1 "Part" t.CP partN) :
    Ok P w K mg base 3 "parts_from_numbers" ["numbers"] (spN (R_parts_from_numbers K t)) := by
  refine ok_of D sc_parts_from_numbers (fun _ _ _ _ _ _ us hl => match us, hl with | [_], _ => rfl) (fun vs H Q E h => ?_) (fun f cdv A outer s H vs Q E hr h => ?_)
  · obtain ⟨Po, ⟨a, ns, n, rfl, _⟩, _⟩ := h
    rfl
  · obtain ⟨Po, ⟨a, ns, n, rfl, hS, hn, hn2, h0, rfl⟩, q⟩ := h
    have hlen : (ns.map V.int).length = 5 * n := by rw [List.length_map]; exact hn
    have hpl : (partsOf ns).length = n := partsOf_len n ns hn
    refine ⟨_, (pss_cons (ps_set (i := 1) sc_parts_from_numbers.nd rfl (Or.inl rfl) (pe_lst pa_nil))
      (pss_cons (ps_for PassesOwn.never rfl (pi_range3 (by rfl) T.b_range (pa_cons pe_int (pa_cons (pe_callB call_len_seq (by rfl) T.b_len PySem.boot_len (pa_cons (pv 0) pa_nil)) (pa_cons (pe_gl T.g_FIELDS) pa_nil)))) (pg_name (i := 2) sc_parts_from_numbers.nd rfl (Or.inl rfl))
        (pss_one (ps_expr (pe_bm PySem.F.plainAttrs_list PySem.F.slot_list_append PySem.F.type_list_append mt_append (pv 1) (pa_cons (pe_new o_Part (hr.mono (by omega)) (pa_cons (pe_ix ix_list (pv 0) (pv 2) (fun _ _ => rfl)) (pa_cons (pe_ix ix_list (pv 0) (pe_op op_add (pv 2) pe_int) (fun _ _ => rfl)) (pa_cons (pe_ix ix_list (pv 0) (pe_op op_add (pv 2) pe_int) (fun _ _ => rfl)) (pa_cons (pe_ix ix_list (pv 0) (pe_op op_add (pv 2) pe_int) (fun _ _ => rfl)) (pa_cons (pe_ix ix_list (pv 0) (pe_op op_add (pv 2) pe_int) (fun _ _ => rfl)) pa_nil)))))) pa_nil)))))
      (pss_one (ps_ret (pv 1))))), ?_⟩
    refine rd_ssetC (rd_lst0 fun l hl => ?_)
    have s0 : Same H (upd H l (.lst [])) := Same.upd_new (Same.refl H) hl
    refine rd_sforC (i := 0) (j := ((ns.map V.int).length : Nat)) (c := 5) (n := n) (va_cons val_c (va_cons (val_cb (va_cons (val_var rfl) va_nil) fun Q q => ⟨a, _, rfl, .inl (s0.seq hS), q⟩) (va_cons val_c va_nil))) (by rw [hlen]; exact rgc_of (by decide) (by decide) (by omega))
      (fun i σ H' => ∃ v : Option V, σ = [some (.ref a), some (.ref l), v] ∧ Same H H' ∧ PartsAt t H' l ((partsOf ns).take i))
      ⟨none, rfl, s0, ⟨[], upd_same, rfl, fun i a x h => by simp at h⟩⟩ ?_ ?_
    · rintro i σ H' hi ⟨v, rfl, s1, as, el, hal, hq⟩
      obtain ⟨p, e0, e1, e2, e3, e4, e5⟩ := partsOf_get n ns hn i hi h0
      have at0 : ∀ {j : Nat} {z : Int} {y : Nat}, ns[j]? = some (y : Int) → z = (j : Int) → atI (ns.map V.int) z = some (.int (y : Int)) := fun {j z y} e ez => at_of ez (by rw [List.getElem?_map, e]; rfl)
      have S' := s1.seq hS
      have hal' : as.length = i := by rw [hal, List.length_take]; omega
      refine ⟨_, rfl, .inl ⟨rfl, _, SqL.of el⟩, rd_cons (rd_new (va_cons (val_ix (val_var rfl) (val_var rfl) S' (at0 e1 (by omega))) (va_cons (val_ix (val_var rfl) (val_I0 (val_var rfl) val_c) S' (at0 e2 (by omega))) (va_cons (val_ix (val_var rfl) (val_I0 (val_var rfl) val_c) S' (at0 e3 (by omega)))
        (va_cons (val_ix (val_var rfl) (val_I0 (val_var rfl) val_c) S' (at0 e4 (by omega))) (va_cons (val_ix (val_var rfl) (val_I0 (val_var rfl) val_c) S' (at0 e5 (by omega))) va_nil))))) rfl fun x dx H2 nx s2 ex => ?_)⟩
      refine ⟨l, _, _, rfl, rfl, s2 _ _ el, ?_, ?_⟩
      · rw [List.length_map]
        exact small100 (by omega)
      · refine ⟨_, rfl, Same.upd_old (s1.trans s2) hl, ?_⟩
        rw [take_snoc e0]
        exact ListAt.push (s2 _ _ el) hal (fun j b y h1 h2 => (hq j b y h1 h2).same s2) ⟨dx, ex⟩ (PartAt.upd (s2 _ _ el))
    · rintro σ H' ⟨v, rfl, s1, hP⟩
      rw [List.take_of_length_le (by omega)] at hP
      exact rd_ret (val_var rfl) (q _ _ s1 ⟨l, rfl, hP⟩)
def R_parts_are_right (t : Adr) : List V → Hp → (V → Hp → Prop) → Prop := fun vs H Po => ∃ l ps ka k, vs = [.ref l, .ref ka] ∧ PartsAt t H l ps ∧ KindAt t H ka k ∧ Po = fun v _ => v = .bl (okParts k ps)
theorem ok_parts_are_right (D : DefAt K mg "parts_are_right" s_parts_are_right) (T : Txt K mg t) (o_part_is_right : Ok P w K mg base 3 "part_is_right" ["part", "place", "data"] (spV (R_part_is_right t))) :
    Ok P w K mg base 4 "parts_are_right" ["parts", "data"] (spN (R_parts_are_right t)) := by
  refine ok_of D sc_parts_are_right (fun _ _ _ _ _ _ us hl => match us, hl with | [_, _], _ => rfl) (fun vs H Q E h => ?_) (fun f cdv A outer s H vs Q E hr h => ?_)
  · obtain ⟨Po, ⟨l, ps, ka, k, rfl, _⟩, _⟩ := h
    rfl
  · obtain ⟨Po, ⟨l, ps, ka, k, rfl, hP, hk, rfl⟩, q⟩ := h
    obtain ⟨as, el, hal, hq⟩ := hP
    have hl2 : (as.map V.ref).length = ps.length := by rw [List.length_map]; exact hal
    refine ⟨_, (pss_cons (ps_if (pt_not (pt_chain op_le op_le pe_int (pe_callB call_len_seq (by rfl) T.b_len PySem.boot_len (pa_cons (pv 0) pa_nil)) (pe_gl T.g_MOST_PARTS)))
        (pss_one (ps_ret pe_bl))
        pss_nil)
      (pss_one (ps_ret (pe_callB (cr_all rfl) (by rfl) T.b_all PyProof.Rows.boot_all (pa_cons (pe_lcXY (own := [("place", 2), ("part", 3)]) (i := 2) (j := 3) rfl sc_parts_are_right.nd (pi_enum (by rfl) T.b_enumerate (pa_cons (pv 0) pa_nil)) (blkOk_by (by show blkC ["parts", "data", "place", "part"] (defScope s_parts_are_right) _ _ = true; decide +kernel)) rfl rfl rfl rfl (fun _ _ _ _ _ => (pe_fn o_part_is_right (hr.mono (by omega)) (pa_cons (pv 3) (pa_cons (pv 2) (pa_cons (pv 1) pa_nil)))))) pa_nil))))), ?_⟩
    refine rd_ifN (vt_not (vt_test (val_chain val_c (val_cb (va_cons (val_var rfl) va_nil) fun Q q => ⟨l, _, rfl, .inl (SqL.of el), q⟩) val_c))) (fun e => ?_) (fun e => ?_)
    · refine rd_ret val_c (q _ _ (Same.refl H) ?_)
      have hb : ¬ (1 ≤ ps.length ∧ ps.length ≤ 64) := fun z => by
        rw [hl2, decide_eq_true (show (1 : Int) ≤ (ps.length : Int) by omega), decide_eq_true (show (ps.length : Int) ≤ 64 by omega)] at e
        cases e
      unfold okParts
      rw [if_neg hb]
    · have hb : 1 ≤ ps.length ∧ ps.length ≤ 64 := by
        rw [hl2] at e
        simp at e
        omega
      have hbl : (bsOf k ps).length = ps.length := by simp [bsOf]
      refine rd_retC (rd_cons ?_)
      refine ⟨_, rfl, l, _, rfl, SqL.of el, fun D hD => lc_enum (xs := as.map V.ref) (fun i H' => Same H H' ∧ H' D = some (.lst (((bsOf k ps).take i).map V.bl))) ⟨Same.upd_new (Same.refl H) hD, upd_same⟩ (fun i H' _ z => SqL.of (z.1 _ _ el)) ?_ ?_⟩
      · rintro i x Ta H' hx hT ⟨s1, hD1⟩
        have hi : i < as.length := by
          have := (List.getElem?_eq_some_iff.mp hx).1
          rw [List.length_map] at this
          exact this
        have ea : as[i]? = some as[i] := List.getElem?_eq_getElem hi
        have ep : ps[i]? = some ps[i] := List.getElem?_eq_getElem (by omega)
        have ex : x = .ref as[i] := by
          rw [List.getElem?_map, ea] at hx
          exact (Option.some.inj hx).symm
        subst ex
        have s2 : Same H (upd H' Ta (.tup [.int (i : Nat), .ref as[i]])) := Same.upd_new s1 hT
        refine ⟨Ta, _, rfl, SqT.of upd_same, rfl, _, _, rfl, _, _, rfl, rfl, rfl, rd_yes ?_⟩
        refine (val_call (va_cons (val_var rfl) (va_cons (val_var rfl) (va_cons (val_var rfl) va_nil))) ⟨as[i], ps[i], i, ka, k, rfl, (hq i _ _ ea ep).same s2, hk.same s2, rfl⟩) _ ?_
        have nDT : D ≠ Ta := ne_of_none hD1 hT
        refine ⟨_, by rw [upd_ne nDT]; exact hD1, ?_, ?_, ?_⟩
        · rw [List.length_map, List.length_take]
          exact small100 (by omega)
        · exact Same.upd_old s2 hD
        · rw [upd_same, take_snoc (x := goodP k i ps[i]) (by rw [bsOf, List.getElem?_mapIdx, ep]; rfl), List.map_append]
          rfl
      · rintro H' ⟨s1, hD1⟩
        rw [hl2, List.take_of_length_le (by omega)] at hD1
        refine ⟨D, bsOf k ps, rfl, SqL.of hD1, q _ _ s1 ?_⟩
        unfold okParts
        rw [if_pos hb]
def R_measure_program (t : Adr) : List V → Hp → (V → Hp → Prop) → Prop := fun vs H Po => ∃ l ps, vs = [.ref l] ∧ PartsAt t H l ps ∧ (1 ≤ ps.length ∧ ps.length ≤ 64) ∧ (∀ (i : Nat) (p : Part), ps[i]? = some p → canMeas i p) ∧ Po = fun v H' => ∃ b, v = .ref b ∧ MeasAt t H' b ((sizesOf ps).getD (ps.length - 1) (0, 0, 0))
theorem ok_measure_program (D : DefAt K mg "measure_program" s_measure_program) (T : Txt K mg t) (o_measure_part : Ok P w K mg base 3 "measure_part" ["part", "measures"] (spN (R_measure_part t))) :
    Ok P w K mg base 4 "measure_program" ["parts"] (spN (R_measure_program t)) := by
  refine ok_of D sc_measure_program (fun _ _ _ _ _ _ us hl => match us, hl with | [_], _ => rfl) (fun vs H Q E h => ?_) (fun f cdv A outer s H vs Q E hr h => ?_)
  · obtain ⟨Po, ⟨l, ps, rfl, _⟩, _⟩ := h
    rfl
  · obtain ⟨Po, ⟨l, ps, rfl, hP, hb, hc, rfl⟩, q⟩ := h
    obtain ⟨as, el, hal, hq⟩ := hP
    refine ⟨_, (pss_cons (ps_set (i := 1) sc_measure_program.nd rfl (Or.inl rfl) (pe_lst pa_nil))
      (pss_cons (ps_for PassesOwn.never rfl (pi_list (pv 0)) (pg_name (i := 2) sc_measure_program.nd rfl (Or.inl rfl))
        (pss_one (ps_expr (pe_bm PySem.F.plainAttrs_list PySem.F.slot_list_append PySem.F.type_list_append mt_append (pv 1) (pa_cons (pe_fn o_measure_part (hr.mono (by omega)) (pa_cons (pv 2) (pa_cons (pv 1) pa_nil))) pa_nil)))))
      (pss_one (ps_ret (pe_ix ix_list (pv 1) (pe_un un_neg pe_int) (fun _ _ => rfl)))))), ?_⟩
    refine rd_ssetC (rd_lst0 fun m hm => ?_)
    have s0 : Same H (upd H m (.lst [])) := Same.upd_new (Same.refl H) hm
    refine rd_sforL (xs := as.map V.ref) (val_var rfl) (SqL.of (s0 _ _ el))
      (fun i σ H' => ∃ v : Option V, σ = [some (.ref l), some (.ref m), v] ∧ Same H H' ∧ MeassAt t H' m (sizesOf (ps.take i)))
      ⟨none, rfl, s0, ⟨[], upd_same, rfl, fun i a x h => by simp at h⟩⟩ (fun i σ H' _ ⟨_, _, s1, _⟩ => SqL.of (s1 _ _ el)) ?_ ?_
    · rintro i x σ H' hx ⟨v, rfl, s1, hM⟩
      have hi : i < as.length := by
        have := (List.getElem?_eq_some_iff.mp hx).1
        rw [List.length_map] at this
        exact this
      have ea : as[i]? = some as[i] := List.getElem?_eq_getElem hi
      have ep : ps[i]? = some ps[i] := List.getElem?_eq_getElem (by omega)
      have ex : x = .ref as[i] := by
        rw [List.getElem?_map, ea] at hx
        exact (Option.some.inj hx).symm
      subst ex
      have hlen : (sizesOf (ps.take i)).length = i := by rw [sizesOf_len, List.length_take]; omega
      have hM' := hM
      obtain ⟨ms, em, hml, hmq⟩ := hM'
      refine ⟨_, rfl, .inl ⟨rfl, _, SqL.of em⟩, rd_cons (rd_call (va_cons (val_var rfl) (va_cons (val_var rfl) va_nil)) ⟨as[i], ps[i], m, sizesOf (ps.take i), rfl, (hq i _ _ ea ep).same s1, hM, by rw [hlen]; exact hc i _ ep, rfl⟩ ?_)⟩
      rintro v2 H2 s2 ⟨b, rfl, nb, hb2⟩
      refine ⟨m, _, _, rfl, rfl, s2 _ _ em, ?_, ?_⟩
      · rw [List.length_map]
        exact small100 (by omega)
      · refine ⟨_, rfl, Same.upd_old (s1.trans s2) hm, ?_⟩
        rw [sizes_take ep]
        exact ListAt.push (s2 _ _ em) hml (fun j b y h1 h2 => (hmq j b y h1 h2).same s2) hb2 (MeasAt.upd (s2 _ _ em))
    · rintro σ H' ⟨v, rfl, s1, hM⟩
      rw [List.length_map, List.take_of_length_le (by omega)] at hM
      obtain ⟨l', x, e1, e2⟩ := sizes_last hb.1
      have el : (sizesOf ps)[ps.length - 1]? = some x := by
        have hlt : ps.length - 1 < (sizesOf ps).length := by rw [sizesOf_len]; omega
        rw [List.getElem?_eq_getElem hlt, ← e2, List.getD_eq_getElem?_getD, List.getElem?_eq_getElem hlt]
        rfl
      obtain ⟨ms, b, em, hml, eb, hbm⟩ := hM.get el
      have hml' : (ms.map V.ref).length = ps.length := by rw [List.length_map, hml, sizesOf_len]
      refine rd_ret (val_ix (val_var rfl) (val_U val_c) (SqL.of em) (atI_neg1 (v := .ref b) (by rw [hml']; exact eb) (by omega))) (q _ _ s1 ⟨b, rfl, ?_⟩)
      rw [e2]
      exact hbm
def R_program_is_right (t : Adr) : List V → Hp → (V → Hp → Prop) → Prop := fun vs H Po => ∃ l ps, vs = [.ref l] ∧ PartsAt t H l ps ∧ (1 ≤ ps.length ∧ ps.length ≤ 64) ∧ (∀ (i : Nat) (p : Part), ps[i]? = some p → canMeas i p) ∧ Po = fun v _ => v = .bl (okProg ps)
theorem ok_program_is_right (D : DefAt K mg "program_is_right" s_program_is_right) (T : Txt K mg t) (o_measure_program : Ok P w K mg base 4 "measure_program" ["parts"] (spN (R_measure_program t))) :
    Ok P w K mg base 5 "program_is_right" ["parts"] (spN (R_program_is_right t)) := by
  refine ok_of D sc_program_is_right (fun _ _ _ _ _ _ us hl => match us, hl with | [_], _ => rfl) (fun vs H Q E h => ?_) (fun f cdv A outer s H vs Q E hr h => ?_)
  · obtain ⟨Po, ⟨l, ps, rfl, _⟩, _⟩ := h
    rfl
  · obtain ⟨Po, ⟨l, ps, rfl, hP, hb, hc, rfl⟩, q⟩ := h
    refine ⟨_, (pss_cons (ps_set (i := 1) sc_program_is_right.nd rfl (Or.inl rfl) (pe_fn o_measure_program (hr.mono (by omega)) (pa_cons (pv 0) pa_nil)))
      (pss_one (ps_ret (pe_and (pe_cmpR op_le (pe_fld (pv 1) rfl) (pe_gl T.g_MOST_SIZE) (nomark _)) (pe_and (pe_cmpR op_le (pe_fld (pv 1) rfl) (pe_gl T.g_MOST_DEPTH) (nomark _)) (pe_one (pe_cmpR op_le (pe_fld (pv 1) rfl) (pe_gl T.g_MOST_STEPS) (nomark _)))))))), ?_⟩
    refine rd_ssetC (rd_call (va_cons (val_var rfl) va_nil) ⟨l, ps, rfl, hP, hb, hc, rfl⟩ ?_)
    rintro v H1 s1 ⟨b, rfl, dx, hbm⟩
    refine rd_ret (val_and (val_I0 (val_f 0 (val_var rfl) hbm T.cM rfl rfl) val_c) (fun _ => val_and (val_I0 (val_f 1 (val_var rfl) hbm T.cM rfl rfl) val_c) (fun _ => val_I0 (val_f 2 (val_var rfl) hbm T.cM rfl rfl) val_c))) (q _ _ s1 ?_)
    rw [okProg_eq rfl]
/-- a how: two kinds, two misses, none, the parts -/
def HowAt (t : Adr) (H : Hp) (a : Addr) (code data : Kp120.Kind) (cm dm no : Nat) (ps : List Part) : Prop := ∃ dx ca da l, H a = some (.ins t.CH dx (howN.zip [.ref ca, .ref da, .int cm, .int dm, .int no, .ref l])) ∧ KindAt t H ca code ∧ KindAt t H da data ∧ PartsAt t H l ps
def R_how_is_right (t : Adr) : List V → Hp → (V → Hp → Prop) → Prop := fun vs H Po => ∃ a code data cm dm no ps, vs = [.ref a] ∧ HowAt t H a code data cm dm no ps ∧ Po = fun v _ => v = .bl (okHow code data cm dm no ps)
theorem ok_how_is_right (D : DefAt K mg "how_is_right" s_how_is_right) (T : Txt K mg t) (o_kind_is_right : Ok P w K mg base 1 "kind_is_right" ["kind"] (spV (R_kind_is_right t))) (o_parts_are_right : Ok P w K mg base 4 "parts_are_right" ["parts", "data"] (spN (R_parts_are_right t)))
    (o_program_is_right : Ok P w K mg base 5 "program_is_right" ["parts"] (spN (R_program_is_right t))) : Ok P w K mg base 6 "how_is_right" ["how"] (spN (R_how_is_right t)) := by
  refine ok_of D sc_how_is_right (fun _ _ _ _ _ _ us hl => match us, hl with | [_], _ => rfl) (fun vs H Q E h => ?_) (fun f cdv A outer s H vs Q E hr h => ?_)
  · obtain ⟨Po, ⟨a, code, data, cm, dm, no, ps, rfl, _⟩, _⟩ := h
    rfl
  · obtain ⟨Po, ⟨a, code, data, cm, dm, no, ps, rfl, ⟨dx, ca, da, l, ha, hC, hD, hP⟩, rfl⟩, q⟩ := h
    refine ⟨_, (pss_cons (ps_if (PW.pt (pw_or (pt_not (pt_val (pe_fn o_kind_is_right (hr.mono (by omega)) (pa_cons (pe_fld (pv 0) rfl) pa_nil)))) (pw_or1 (pt_not (pt_val (pe_fn o_kind_is_right (hr.mono (by omega)) (pa_cons (pe_fld (pv 0) rfl) pa_nil)))))))
        (pss_one (ps_ret pe_bl))
        pss_nil)
      (pss_cons (ps_if (PW.pt (pw_or (pt_cmpR op_gt (pe_fld (pv 0) rfl) (pe_gl T.g_MOST_MISS) (nomark _)) (pw_or (pt_cmpR op_gt (pe_fld (pv 0) rfl) (pe_gl T.g_MOST_MISS) (nomark _)) (pw_or1 (pt_cmpR op_ne (pe_fld (pv 0) rfl) pe_int (nomark _))))))
        (pss_one (ps_ret pe_bl))
        pss_nil)
      (pss_one (ps_ret (pe_and (pe_fn o_parts_are_right (hr.mono (by omega)) (pa_cons (pe_fld (pv 0) rfl) (pa_cons (pe_fld (pv 0) rfl) pa_nil))) (pe_one (pe_fn o_program_is_right (hr.mono (by omega)) (pa_cons (pe_fld (pv 0) rfl) pa_nil)))))))), ?_⟩
    refine rd_ifN (vt_or (vt_not (vt_b (val_call (va_cons (val_f 0 (val_var rfl) ha T.cH rfl rfl) va_nil) ⟨ca, code, rfl, hC, rfl⟩))) (fun _ => vt_not (vt_b (val_call (va_cons (val_f 1 (val_var rfl) ha T.cH rfl rfl) va_nil) ⟨da, data, rfl, hD, rfl⟩)))) (fun e => ?_) (fun e1 => ?_)
    · refine rd_ret val_c (q _ _ (Same.refl H) ?_)
      unfold okHow
      rw [if_neg (by
        rintro ⟨z1, z2⟩
        rw [z1, z2] at e
        cases e)]
    · have g : Kp120.goodKind code = true ∧ Kp120.goodKind data = true := by
        rw [Bool.or_eq_false_iff, Bool.not_eq_false', Bool.not_eq_false'] at e1
        exact e1
      refine rd_ifN (vt_or (vt_test (val_I0 (val_f 2 (val_var rfl) ha T.cH rfl rfl) val_c)) (fun _ => vt_or (vt_test (val_I0 (val_f 3 (val_var rfl) ha T.cH rfl rfl) val_c)) (fun _ => vt_test (val_neI (val_f 4 (val_var rfl) ha T.cH rfl rfl) val_c)))) (fun e => ?_) (fun e2 => ?_)
      · refine rd_ret val_c (q _ _ (Same.refl H) ?_)
        unfold okHow
        rw [if_pos g, if_neg (by
          rintro ⟨z1, z2, z3⟩
          rw [decide_eq_false (show ¬ (65535 : Int) < (cm : Int) by omega), decide_eq_false (show ¬ (65535 : Int) < (dm : Int) by omega), decide_eq_true (show (no : Int) = 0 by omega)] at e
          cases e)]
      · have g2 : cm ≤ 65535 ∧ dm ≤ 65535 ∧ no = 0 := by
          simp at e2
          omega
        refine rd_retC ?_
        refine rd_call (va_cons (val_f 5 (val_var rfl) ha T.cH rfl rfl) (va_cons (val_f 1 (val_var rfl) ha T.cH rfl rfl) va_nil)) ⟨l, ps, da, data, rfl, hP, hD, rfl⟩ ?_
        rintro v H1 s1 rfl
        refine ⟨_, rfl, ite2 (fun hc => ?_) (fun hc => ?_)⟩
        · have hc2 := hc
          unfold okParts at hc2
          have hb : 1 ≤ ps.length ∧ ps.length ≤ 64 := by
            by_cases z : 1 ≤ ps.length ∧ ps.length ≤ 64
            · exact z
            · rw [if_neg z] at hc2
              cases hc2
          rw [if_pos hb] at hc2
          refine rd_call (va_cons (val_f 5 (val_var rfl) (s1 _ _ ha) T.cH rfl rfl) va_nil) ⟨l, ps, rfl, hP.same s1, hb, fun i p e => canMeas_of (bs_get hc2 e), rfl⟩ ?_
          rintro v H2 s2 rfl
          refine q _ _ (s1.trans s2) ?_
          unfold okHow
          rw [if_pos g, if_pos g2, if_pos hc]
        · refine q _ _ s1 ?_
          unfold okHow
          rw [if_pos g, if_pos g2, if_neg hc]
def R_read_how (K : PySem.W.Frag) (t : Adr) : List V → Hp → (V → Hp → Prop) → Prop := fun vs H Po => ∃ (a0 a1 a2 a3 b0 b1 b2 b3 m n o : Nat) (lc ld l : Addr) (ns : List Int) (c : Nat),
  vs = [.ref lc, .ref ld, .int m, .int n, .int o, .ref l] ∧ SqL K H lc [.int a0, .int a1, .int a2, .int a3] ∧ SqL K H ld [.int b0, .int b1, .int b2, .int b3] ∧ SqL K H l (ns.map V.int) ∧ ns.length = 5 * c ∧ c ≤ 80 ∧ (∀ x ∈ ns, 0 ≤ x) ∧
  Po = fun v H' => ∃ a, v = .ref a ∧ HowAt t H' a ⟨a0, a1, a2, a3⟩ ⟨b0, b1, b2, b3⟩ m n o (partsOf ns)
theorem ok_read_how (D : DefAt K mg "read_how" s_read_how) (T : Txt K mg t) (o_Kind : OkC P w K mg base 1 "Kind" t.CK kindN) (o_How : OkC P w K mg base 1 "How" t.CH howN) (o_parts_from_numbers : Ok P w K mg base 3 "parts_from_numbers" ["numbers"] (spN (R_parts_from_numbers K t))) :
    Ok P w K mg base 4 "read_how" ["code", "data", "code_miss", "data_miss", "none", "part"] (spN (R_read_how K t)) := by
  refine ok_of D sc_read_how (fun _ _ _ _ _ _ us hl => match us, hl with | [_, _, _, _, _, _], _ => rfl) (fun vs H Q E h => ?_) (fun f cdv A outer s H vs Q E hr h => ?_)
  · obtain ⟨Po, ⟨a0, a1, a2, a3, b0, b1, b2, b3, m, n, o, lc, ld, l, ns, c, rfl, _⟩, _⟩ := h
    rfl
  · obtain ⟨Po, ⟨a0, a1, a2, a3, b0, b1, b2, b3, m, n, o, lc, ld, l, ns, c, rfl, hlc, hld, hS, hn, hc, h0, rfl⟩, q⟩ := h
    refine ⟨_, (pss_cons (ps_set (i := 6) sc_read_how.nd rfl (Or.inl rfl) (pe_new o_Kind (hr.mono (by omega)) (pa_cons (pe_ix ix_list (pv 0) pe_int (fun _ _ => rfl)) (pa_cons (pe_ix ix_list (pv 0) pe_int (fun _ _ => rfl)) (pa_cons (pe_ix ix_list (pv 0) pe_int (fun _ _ => rfl)) (pa_cons (pe_ix ix_list (pv 0) pe_int (fun _ _ => rfl)) pa_nil))))))
      (pss_cons (ps_set (i := 7) sc_read_how.nd rfl (Or.inl rfl) (pe_new o_Kind (hr.mono (by omega)) (pa_cons (pe_ix ix_list (pv 1) pe_int (fun _ _ => rfl)) (pa_cons (pe_ix ix_list (pv 1) pe_int (fun _ _ => rfl)) (pa_cons (pe_ix ix_list (pv 1) pe_int (fun _ _ => rfl)) (pa_cons (pe_ix ix_list (pv 1) pe_int (fun _ _ => rfl)) pa_nil))))))
      (pss_one (ps_ret (pe_new o_How (hr.mono (by omega)) (pa_cons (pv 6) (pa_cons (pv 7) (pa_cons (pv 2) (pa_cons (pv 3) (pa_cons (pv 4) (pa_cons (pe_fn o_parts_from_numbers (hr.mono (by omega)) (pa_cons (pv 5) pa_nil)) pa_nil))))))))))), ?_⟩
    refine rd_ssetC (rd_new (va_cons (val_ix (val_var rfl) val_c hlc (at_of (j := 0) rfl rfl)) (va_cons (val_ix (val_var rfl) val_c hlc (at_of (j := 1) rfl rfl)) (va_cons (val_ix (val_var rfl) val_c hlc (at_of (j := 2) rfl rfl)) (va_cons (val_ix (val_var rfl) val_c hlc (at_of (j := 3) rfl rfl)) va_nil)))) rfl fun xc dc H1 _ s1 ec => ?_)
    have hld1 := s1.seq hld
    refine rd_ssetC (rd_new (va_cons (val_ix (val_var rfl) val_c hld1 (at_of (j := 0) rfl rfl)) (va_cons (val_ix (val_var rfl) val_c hld1 (at_of (j := 1) rfl rfl)) (va_cons (val_ix (val_var rfl) val_c hld1 (at_of (j := 2) rfl rfl)) (va_cons (val_ix (val_var rfl) val_c hld1 (at_of (j := 3) rfl rfl)) va_nil)))) rfl fun xd dd H2 _ s2 ed => ?_)
    have hC : KindAt t H1 xc ⟨a0, a1, a2, a3⟩ := ⟨dc, ec⟩
    have hD : KindAt t H2 xd ⟨b0, b1, b2, b3⟩ := ⟨dd, ed⟩
    refine rd_retC (rd_newC (rd_consV (val_var rfl) (rd_consV (val_var rfl) (rd_consV (val_var rfl) (rd_consV (val_var rfl) (rd_consV (val_var rfl) (rd_cons (rd_call (va_cons (val_var rfl) va_nil) ⟨l, ns, c, rfl, (s1.trans s2).seq hS, hn, hc, h0, rfl⟩ ?_))))))))
    rintro v H3 s3 ⟨lp, rfl, hP⟩
    refine ⟨rfl, fun xh dh H4 _ s4 eh => ?_⟩
    exact q _ _ (((s1.trans s2).trans s3).trans s4) ⟨xh, rfl, dh, xc, xd, lp, eh, ((hC.same s2).same s3).same s4, (hD.same s3).same s4, hP.same s4⟩
/-- two lists of four numbers, then a call -/
theorem rd_two {ta tb : TA} {tr : TA} {σ : L2.St} {H : Hp} {xs ys : List V} {QA : List V → Hp → Prop} (h1 : ValA ta σ H xs) (hx : xs.length ≤ sizeLine) (h2 : ∀ H1, Same H H1 → ValA tb σ H1 ys) (hy : ys.length ≤ sizeLine)
    (q : ∀ la lb, H la = none → Same H (upd (upd H la (.lst xs)) lb (.lst ys)) → (upd (upd H la (.lst xs)) lb (.lst ys)) la = some (.lst xs) → tr σ (upd (upd H la (.lst xs)) lb (.lst ys)) fun vs H2 => QA (.ref la :: .ref lb :: vs) H2) : tCons (tLst ta) (tCons (tLst tb) tr) σ H QA := by
  refine h1 _ ⟨hx, fun la na => ?_⟩
  have s1 : Same H (upd H la (.lst xs)) := Same.upd_new (Same.refl H) na
  refine h2 _ s1 _ ⟨hy, fun lb nb => ?_⟩
  exact q la lb na (Same.upd_new s1 nb) (by rw [upd_ne (ne_of_none upd_same nb)]; exact upd_same)
end
end My
namespace My
open PySem PySem.Spec PyProof.Rows L2
open Kp121 (Part Going)
/-! ### a run as it lies in the heap -/
/-- the addresses of a run -/
structure RA where
  r : Addr
  dx : Addr
  how : Addr
  choice : Addr
  cho : Addr
  co : Addr
  da : Addr
  dco : Addr
  dda : Addr
  kc : Addr
  kd : Addr
  hc : Addr
  hd : Addr
  lc : List Addr
  ld : List Addr
/-- what a run is about -/
structure RD where
  code : Kp120.Kind
  data : Kp120.Kind
  cm : Nat
  dm : Nat
  no : Nat
  ps : List Part
  l : List Nat
abbrev RD.h (D : RD) : Kp121.How := howOf D.code D.data D.cm D.dm D.no D.ps
theorem ne_mem {l : List Addr} {a b : Addr} (h : a ∈ l) (n : b ∉ l) : a ≠ b := fun z => n (z ▸ h)
theorem ne_mem' {l : List Addr} {a b : Addr} (h : a ∈ l) (n : b ∉ l) : b ≠ a := fun z => n (z ▸ h)
/-- the heap without what a run changes -/
def hide (A : RA) (H : Hp) : Hp := fun b => if b = A.r ∨ b ∈ A.lc ∨ b ∈ A.ld then none else H b
theorem hide_same (A : RA) (H : Hp) : Same (hide A H) H := fun b o h => by
  unfold hide at h
  split at h
  · cases h
  · exact h
theorem hide_upd {A : RA} {H : Hp} {b : Addr} {o : HO} (h : b = A.r ∨ b ∈ A.lc ∨ b ∈ A.ld) : hide A (upd H b o) = hide A H := by
  funext c
  unfold hide
  by_cases hc : c = A.r ∨ c ∈ A.lc ∨ c ∈ A.ld
  · rw [if_pos hc, if_pos hc]
  · have ne : c ≠ b := fun z => hc (by rw [z]; exact h)
    rw [if_neg hc, if_neg hc, upd_ne ne]
theorem hide_get {A : RA} {H : Hp} {b : Addr} {o : HO} (h1 : b ≠ A.r) (h2 : b ∉ A.lc) (h3 : b ∉ A.ld) (e : H b = some o) : hide A H b = some o := by
  unfold hide
  rw [if_neg (fun z => z.elim h1 (fun z => z.elim h2 h3))]
  exact e
def Out (A : RA) (H H' : Hp) : Prop := hide A H' = hide A H
theorem Out.refl (A : RA) (H : Hp) : Out A H H := rfl
theorem Out.trans {A : RA} {H H1 H2 : Hp} (a : Out A H H1) (b : Out A H1 H2) : Out A H H2 := Eq.trans b a
theorem ne_ins {C C' dx dx' : Addr} {fs fs' : List (Str × V)} (h : fs.length ≠ fs'.length) : HO.ins C dx fs ≠ HO.ins C' dx' fs' := fun z => by
  injection z with _ _ z3
  exact h (congrArg List.length z3)
/-- a cache as it lies -/
structure HeldAt (t : Adr) (G : Hp) (a dx ka ha : Addr) (k : Kp120.Kind) (las : List Addr) : Prop where
  obj : G a = some (.ins t.CHe dx (heldN.zip [.ref ka, .ref ha]))
  kind : KindAt t G ka k
  sets : G ha = some (.lst (las.map V.ref))
theorem HeldAt.same {t : Adr} {G H : Hp} {a dx ka ha : Addr} {k : Kp120.Kind} {las : List Addr} (h : HeldAt t G a dx ka ha k las) (s : Same G H) : HeldAt t H a dx ka ha k las := ⟨s _ _ h.obj, h.kind.same s, s _ _ h.sets⟩
def SetsAt (H : Hp) (las : List Addr) (ls : List (List Nat)) : Prop := ∀ (i : Nat) (a : Addr) (x : List Nat), las[i]? = some a → ls[i]? = some x → H a = some (.lst (nV x))
structure Fix (K : PySem.W.Frag) (t : Adr) (D : RD) (A : RA) (G : Hp) : Prop where
  how : HowAt t G A.how D.code D.data D.cm D.dm D.no D.ps
  cho : G A.cho = some (.lst ((choL D.ps).map V.bl))
  choice : SqL K G A.choice (nV D.l)
  co : HeldAt t G A.co A.dco A.kc A.hc D.code A.lc
  da : HeldAt t G A.da A.dda A.kd A.hd D.data A.ld
  nc : A.lc.length = D.code.sets
  nd : A.ld.length = D.data.sets
  dist : (A.lc ++ A.ld).Nodup
  nr : A.r ∉ A.lc ∧ A.r ∉ A.ld
  ok : okHow D.code D.data D.cm D.dm D.no D.ps = true
def runF (A : RA) (n : Nat) (S : Going) : List V := [.ref A.how, .ref A.choice, .int (n : Int), .ref A.cho, .int (S.steps : Int), .int (S.time : Int), .ref A.co, .ref A.da]
structure RunAt (K : PySem.W.Frag) (t : Adr) (D : RD) (A : RA) (H : Hp) (S : Going) : Prop where
  fix : Fix K t D A (hide A H)
  run : ∃ n, n ≤ D.l.length ∧ S.left_ = D.l.drop n ∧ H A.r = some (.ins t.CR A.dx (runN.zip (runF A n S)))
  sc : SetsAt H A.lc (setsL D.code S.c.code)
  sd : SetsAt H A.ld (setsL D.data S.c.data)
  okc : CacheOk D.code S.c.code
  okd : CacheOk D.data S.c.data
section
variable {K : PySem.W.Frag} {t : Adr} {D : RD} {A : RA} {H : Hp} {S S' : Going}
theorem SetsAt.upd_out {las : List Addr} {ls : List (List Nat)} {b : Addr} {o : HO} (h : SetsAt H las ls) (n : b ∉ las) : SetsAt (upd H b o) las ls := fun i a x h1 h2 => by
  rw [upd_ne (ne_mem (List.mem_of_getElem? h1) n)]
  exact h i a x h1 h2
theorem SetsAt.upd_in {las : List Addr} {ls : List (List Nat)} {s : Nat} {b : Addr} {new : List Nat} (h : SetsAt H las ls) (nd : las.Nodup) (e : las[s]? = some b) : SetsAt (upd H b (.lst (nV new))) las (ls.set s new) := fun i a x h1 h2 => by
  by_cases hi : s = i
  · subst hi
    rw [e] at h1
    cases h1
    rw [List.getElem?_set_self'] at h2
    cases q : ls[s]? with
    | none => rw [q] at h2; cases h2
    | some y =>
      rw [q] at h2
      cases h2
      exact upd_same
  · rw [List.getElem?_set_ne hi] at h2
    have ne : a ≠ b := fun z => by
      subst z
      obtain ⟨g1, e1⟩ := List.getElem?_eq_some_iff.mp e
      obtain ⟨g2, e2⟩ := List.getElem?_eq_some_iff.mp h1
      exact hi ((List.getElem_inj nd).mp (e1.trans e2.symm))
    rw [upd_ne ne]
    exact h i a x h1 h2
/-- the run's own fields have changed -/
theorem RunAt.own (R : RunAt K t D A H S) {n : Nat} (hn : n ≤ D.l.length) (hl : S'.left_ = D.l.drop n) (hc : S'.c = S.c) : RunAt K t D A (upd H A.r (.ins t.CR A.dx (runN.zip (runF A n S')))) S' := by
  refine ⟨by rw [hide_upd (.inl rfl)]; exact R.fix, ⟨n, hn, hl, upd_same⟩, ?_, ?_, by rw [hc]; exact R.okc, by rw [hc]; exact R.okd⟩
  · rw [hc]
    exact R.sc.upd_out R.fix.nr.1
  · rw [hc]
    exact R.sd.upd_out R.fix.nr.2
theorem RunAt.out_own {o : HO} : Out A H (upd H A.r o) := hide_upd (.inl rfl)
/-- a line of code was used -/
theorem RunAt.code (R : RunAt K t D A H S) {l : Nat} {la : Addr} (h1 : 1 ≤ D.code.ways) (e : A.lc[Kp120.setOf D.code l]? = some la) :
    RunAt K t D A (upd H la (.lst (nV (newSet (Kp120.ofSet D.code S.c.code (Kp120.setOf D.code l)) l D.code.ways)))) { S with c := ⟨Kp120.use D.code S.c.code l, S.c.data⟩ } ∧ Out A H (upd H la (.lst (nV (newSet (Kp120.ofSet D.code S.c.code (Kp120.setOf D.code l)) l D.code.ways)))) := by
  have m : la ∈ A.lc := List.mem_of_getElem? e
  have nd := List.nodup_append.mp R.fix.dist
  have o : Out A H (upd H la (.lst (nV (newSet (Kp120.ofSet D.code S.c.code (Kp120.setOf D.code l)) l D.code.ways)))) := hide_upd (.inr (.inl m))
  refine ⟨⟨by rw [show hide A _ = hide A H from o]; exact R.fix, ?_, ?_, ?_, cacheOk_use R.okc l, R.okd⟩, o⟩
  · obtain ⟨n, a, b, c⟩ := R.run
    exact ⟨n, a, b, by rw [upd_ne (ne_mem' m R.fix.nr.1)]; exact c⟩
  · show SetsAt _ A.lc (setsL D.code (Kp120.use D.code S.c.code l))
    rw [setsL_use R.okc h1]
    exact R.sc.upd_in nd.1 e
  · exact R.sd.upd_out fun z => nd.2.2 la m la z rfl
/-- a line of data was used -/
theorem RunAt.data (R : RunAt K t D A H S) {l : Nat} {la : Addr} (h1 : 1 ≤ D.data.ways) (e : A.ld[Kp120.setOf D.data l]? = some la) :
    RunAt K t D A (upd H la (.lst (nV (newSet (Kp120.ofSet D.data S.c.data (Kp120.setOf D.data l)) l D.data.ways)))) { S with c := ⟨S.c.code, Kp120.use D.data S.c.data l⟩ } ∧ Out A H (upd H la (.lst (nV (newSet (Kp120.ofSet D.data S.c.data (Kp120.setOf D.data l)) l D.data.ways)))) := by
  have m : la ∈ A.ld := List.mem_of_getElem? e
  have nd := List.nodup_append.mp R.fix.dist
  have o : Out A H (upd H la (.lst (nV (newSet (Kp120.ofSet D.data S.c.data (Kp120.setOf D.data l)) l D.data.ways)))) := hide_upd (.inr (.inr m))
  refine ⟨⟨by rw [show hide A _ = hide A H from o]; exact R.fix, ?_, ?_, ?_, R.okc, cacheOk_use R.okd l⟩, o⟩
  · obtain ⟨n, a, b, c⟩ := R.run
    exact ⟨n, a, b, by rw [upd_ne (ne_mem' m R.fix.nr.2)]; exact c⟩
  · exact R.sc.upd_out fun z => nd.2.2 la z la m rfl
  · show SetsAt _ A.ld (setsL D.data (Kp120.use D.data S.c.data l))
    rw [setsL_use R.okd h1]
    exact R.sd.upd_in nd.2.1 e
theorem Fix.parts (F : Fix K t D A H) : (1 ≤ D.ps.length ∧ D.ps.length ≤ 64) ∧ (∀ (i : Nat) (p : Part), D.ps[i]? = some p → canMeas i p) ∧ (∀ i, i < D.ps.length → D.h.part[i]? = D.ps[i]?) ∧ dep D.ps (D.ps.length - 1) ≤ 32 ∧ (1 ≤ D.code.sets ∧ D.code.sets ≤ 16 ∧ 1 ≤ D.code.ways ∧ D.code.ways ≤ 8) ∧ (1 ≤ D.data.sets ∧ D.data.sets ≤ 16 ∧ 1 ≤ D.data.ways ∧ D.data.ways ≤ 8) := by
  obtain ⟨h1, h2, h3, h4, h5⟩ := okParts_of F.ok
  exact ⟨h1, fun i p e => canMeas_of (h2 i p e), fun i hi => part_get h1.2 hi, h3, gk_of h4, gk_of h5⟩
end
/-! ### reading -/
theorem lookup_zip_none : ∀ {names : List Str} {us : List V} {f : Str}, f ∉ names → (names.zip us).lookup f = none
  | [], _, _, _ => rfl
  | _ :: _, [], _, _ => rfl
  | n :: names, u :: us, f, h => by
    have hb : (f == n) = false := beq_eq_false_iff_ne.mpr fun e => h (e ▸ List.mem_cons_self)
    show List.lookup f ((n, u) :: names.zip us) = none
    rw [List.lookup, hb]
    exact lookup_zip_none fun z => h (List.mem_cons_of_mem _ z)
theorem putF_zip : ∀ {names : List Str} {us : List V} {i : Nat} {f : Str} {v : V}, names.Nodup → names[i]? = some f → us.length = names.length → putF f v (names.zip us) = names.zip (us.set i v)
  | [], _, _, _, _, _, h, _ => by simp at h
  | _ :: _, [], _, _, _, _, _, h => by simp at h
  | n :: names, u :: us, 0, f, v, _, h1, _ => by
    have e : n = f := by simpa using h1
    subst e
    show (if n = n then (n, v) :: names.zip us else _) = _
    rw [if_pos rfl]
    rfl
  | n :: names, u :: us, i + 1, f, v, nd, h1, hl => by
    have h1' : names[i]? = some f := by simpa using h1
    have q := List.nodup_cons.mp nd
    have ne : ¬ n = f := fun e => q.1 (e ▸ List.mem_of_getElem? h1')
    show (if n = f then _ else (n, u) :: putF f v (names.zip us)) = _
    rw [if_neg ne, putF_zip q.2 h1' (by simpa using hl)]
    rfl
section
variable {K : PySem.W.Frag} {ta tv : TE} {tr : TA} {D : Ends} {u : TS} {σ : L2.St} {H : Hp} {a C dx : Addr} {names : List Str} {us : List V} {f m : Str} {x y : Int} {sp : Sp} {E : XK} {Q : VK} {vs us' : List V}
theorem rd_aug (i : Nat) (c : Cl K C names) (h : Val ta σ H (.ref a)) (hp : H a = some (.ins C dx (names.zip us))) (ei : names[i]? = some f) (eu : us[i]? = some (.int x)) (hv : Val tv σ H (.int y)) (hl : us.length = names.length) (hs : names.length < 1000) (hu : us.set i (.int (x + y)) = us')
    (q : D.nx σ (upd H a (.ins C dx (names.zip us')))) : sFldAug K ta tv rAdd f D σ H := by
  refine h _ ⟨a, C, dx, _, .int x, rfl, hp, c.cl, c.na f (List.mem_of_getElem? ei), lookup_zip c.nd ei eu, hv _ ⟨x, y, rfl, rfl, dx, _, hp, ?_, ?_⟩⟩
  · rw [List.length_zip, hl, Nat.min_self]
    exact hs
  · rw [putF_zip c.nd ei hl, hu]
    exact q
theorem rd_saug (i : Nat) (c : Cl K C names) (h : Val ta σ H (.ref a)) (hp : H a = some (.ins C dx (names.zip us))) (ei : names[i]? = some f) (eu : us[i]? = some (.int x)) (hv : Val tv σ H (.int y)) (hl : us.length = names.length) (hs : names.length < 1000) (hu : us.set i (.int (x + y)) = us')
    (q : u D σ (upd H a (.ins C dx (names.zip us')))) : tSeq (sFldAug K ta tv rAdd f) u D σ H := rd_aug (D := { D with nx := u D }) i c h hp ei eu hv hl hs hu q
theorem rd_ifC {tc : TT} {t1 t2 : TS} (h : tc σ H fun b H1 => if b = true then t1 D σ H1 else t2 D σ H1) : tIfS tc t1 t2 D σ H := h
theorem rd_notB {te : TE} {QT : Bool → Hp → Prop} (h : te σ H fun v H1 => ∃ c, v = .bl c ∧ QT (!c) H1) : tNot (tB te) σ H QT := h
theorem rd_B {te : TE} {QT : Bool → Hp → Prop} (h : te σ H fun v H1 => ∃ c, v = .bl c ∧ QT c H1) : tB te σ H QT := h
theorem rd_andT {tA tB2 : TT} {QT : Bool → Hp → Prop} (h : ValT tA σ H true) (q : tB2 σ H QT) : tAnd tA tB2 σ H QT := h _ (iteT q)
theorem rd_andF {tA tB2 : TT} {QT : Bool → Hp → Prop} (h : ValT tA σ H false) (q : QT false H) : tAnd tA tB2 σ H QT := h _ (iteF q)
theorem rd_opV {r : R2} {v : V} (h : Val ta σ H v) (q : tv σ H fun y H2 => r v y H2 Q) : tOp r ta tv σ H Q := h _ q
theorem rd_drop (h : ta σ H fun _ H1 => D.nx σ H1) : tDrop ta D σ H := h
theorem rd_ifE {tc : TT} {t1 t2 : TE} (h : tc σ H fun b H1 => if b = true then t1 σ H1 Q else t2 σ H1 Q) : tIf tc t1 t2 σ H Q := h
theorem rd_test {te : TE} {QT : Bool → Hp → Prop} (h : te σ H fun v H1 => ∃ c, v = .bl c ∧ QT c H1) : tTest te σ H QT := h
theorem rd_opC {r : R2} (h : ta σ H fun x H1 => tv σ H1 fun y H2 => r x y H2 Q) : tOp r ta tv σ H Q := h
theorem rd_stV (h : tv σ H fun y H1 => ta σ H1 fun x H2 => ∃ a C dx fs, x = .ref a ∧ H2 a = some (.ins C dx fs) ∧ Cls K C ∧ NoAttr K C f ∧ fs.length < 1000 ∧ D.nx σ (upd H2 a (.ins C dx (putF f y fs)))) : sFld K ta tv f D σ H := h
theorem rd_lcr {g : TG} {tt : TT} {te : TE} {ks : List Nat} {j : Int} (h : ValA tr σ H [.int j]) (h1 : -(2 ^ 62) ≤ j) (h2 : j < 2 ^ 62) (q : ∀ Dl, H Dl = none → ∃ W : Nat → Nat → Hp → Prop, (∃ m, W 0 m (upd H Dl (.lst []))) ∧ ∀ i m H, W i m H →
    ((Itr 0 j.toNat).stop i H ∧ Q (.ref Dl) H) ∨ ((Itr 0 j.toNat).go i H ∧ ∃ Nx : Hp → Prop, (∀ H', Nx H' → ∃ m', m' < m ∧ W (i + 1) m' H') ∧ ∀ x H', (Itr 0 j.toNat).yld i H x H' → g x (wipe σ ks) H' fun σ2 H2 => wipe σ2 ks = wipe σ ks ∧ tt σ2 H2 fun b H3 =>
      if b = true then te σ2 H3 fun y H4 => ∃ acc, H4 Dl = some (.lst acc) ∧ acc.length < sizeLine ∧ Nx (upd H4 Dl (.lst (acc ++ [y]))) else Nx H3)) : tLc (iRng1 tr) g tt te ks σ H Q := h _ ⟨j, rfl, h1, h2, q⟩
theorem rd_methC (h : Val ta σ H (.ref a)) (hp : H a = some (.ins C dx (names.zip us))) (hm : m ∉ names) (q : tr σ H fun vs H2 => sp (.ref a :: (vs ++ [])) H2 Q E) : tMeth C m sp [] E ta tr σ H Q :=
  h _ ⟨a, dx, _, rfl, hp, lookup_zip_none hm, q⟩
/-- o.m(..) where all is only read before the call -/
theorem rd_meth (h : Val ta σ H (.ref a)) (hp : H a = some (.ins C dx (names.zip us))) (hm : m ∉ names) (h2 : ValA tr σ H vs) (q : sp (.ref a :: vs) H Q E) : tMeth C m sp [] E ta tr σ H Q :=
  h _ ⟨a, dx, _, rfl, hp, lookup_zip_none hm, h2 _ (by rw [List.append_nil]; exact q)⟩
end
end My
namespace My
open PySem PySem.Spec PyProof.Rows L2
open Kp121 (Part Going)
section
variable {P : Program} {w : World} {K : PySem.W.Frag} {mg : Str → Option Value} {base : Heap} {t : Adr}
/-! ### which parts take a choice -/
def R_chooses (t : Adr) : List V → Hp → V → Prop := fun vs H v => ∃ a p l bs, vs = [.ref a, .ref l] ∧ PartAt t H a p ∧ H l = some (.lst ((bs : List Bool).map V.bl)) ∧ canMeas bs.length p ∧ v = .bl (chP p bs)
theorem ok_chooses (D : DefAt K mg "chooses" s_chooses) (T : Txt K mg t) (o_has_bytes : Ok P w K mg base 1 "has_bytes" ["step"] (spV (R_has_bytes t))) : Ok P w K mg base 2 "chooses" ["part", "choosing"] (spV (R_chooses t)) := by
  refine ok_of D sc_chooses (fun _ _ _ _ _ _ us hl => match us, hl with | [_, _], _ => rfl) (fun vs H Q E h => ?_) (fun f cdv A outer s H vs Q E hr h => ?_)
  · obtain ⟨v, ⟨a, p, l, bs, rfl, _⟩, _⟩ := h
    rfl
  · obtain ⟨v, ⟨a, p, l, bs, rfl, hp0, hl, hc, rfl⟩, q⟩ := h
    have hp := hp0
    obtain ⟨dx, hp⟩ := hp
    refine ⟨_, (pss_cons (ps_if (pt_cmpR op_eq (pe_fld (pv 0) rfl) (pe_gl T.g_STEP) (nomark _))
        (pss_one (ps_ret (pe_fn o_has_bytes (hr.mono (by omega)) (pa_cons (pv 0) pa_nil))))
        pss_nil)
      (pss_cons (ps_if (pt_cmpR op_eq (pe_fld (pv 0) rfl) (pe_gl T.g_BEHIND) (nomark _))
        (pss_one (ps_ret (pe_or (pe_ix ix_list (pv 1) (pe_fld (pv 0) rfl) (fun _ _ => rfl)) (pe_one (pe_ix ix_list (pv 1) (pe_fld (pv 0) rfl) (fun _ _ => rfl))))))
        pss_nil)
      (pss_one (ps_ret pe_bl)))), ?_⟩
    refine rd_ifN (vt_test (val_eqI (val_f 0 (val_var rfl) hp T.cP rfl rfl) val_c)) (fun e => ?_) (fun e0 => ?_)
    · have e := nat_of_dec (b := 0) e
      refine rd_ret (val_call (va_cons (val_var rfl) va_nil) ⟨a, p, rfl, hp0, rfl⟩) ?_
      have z : decide ((p.c : Int) ≤ (p.d : Int)) = chP p bs := by
        unfold chP
        rw [if_pos e, Bool.eq_iff_iff]
        simp only [decide_eq_true_eq]
        omega
      rw [z]
      exact q
    · have e0 := nat_of_ndec (b := 0) e0
      refine rd_ifN (vt_test (val_eqI (val_f 0 (val_var rfl) hp T.cP rfl rfl) val_c)) (fun e => ?_) (fun e1 => ?_)
      · have e := nat_of_dec (b := 1) e
        have hab : p.a < bs.length ∧ p.b < bs.length := by
          rcases hc with z | z | z
          · exact absurd z e0
          · omega
          · exact z.2
        have ga : bs[p.a]? = some bs[p.a] := List.getElem?_eq_getElem hab.1
        have gb : bs[p.b]? = some bs[p.b] := List.getElem?_eq_getElem hab.2
        refine rd_ret (val_or (val_ix (val_var rfl) (val_f 1 (val_var rfl) hp T.cP rfl rfl) (SqL.of hl) (atI_nat (v := V.bl bs[p.a]) (by rw [List.getElem?_map, ga]; rfl))) (fun _ => val_ix (val_var rfl) (val_f 2 (val_var rfl) hp T.cP rfl rfl) (SqL.of hl) (atI_nat (v := V.bl bs[p.b]) (by rw [List.getElem?_map, gb]; rfl)))) ?_
        have z : (bs[p.a] || bs[p.b]) = chP p bs := by
          unfold chP
          rw [if_neg e0, if_pos e, getD_of ga, getD_of gb]
        rw [z]
        exact q
      · have e1 := nat_of_ndec (b := 1) e1
        refine rd_ret val_c ?_
        have z : true = chP p bs := by
          unfold chP
          rw [if_neg e0, if_neg e1]
        rw [z]
        exact q
def R_which_choose (t : Adr) : List V → Hp → (V → Hp → Prop) → Prop := fun vs H Po => ∃ l ps, vs = [.ref l] ∧ PartsAt t H l ps ∧ ps.length ≤ 64 ∧ (∀ (i : Nat) (p : Part), ps[i]? = some p → canMeas i p) ∧ Po = fun v H' => ∃ b, v = .ref b ∧ H b = none ∧ H' b = some (.lst ((choL ps).map V.bl))
theorem ok_which_choose (D : DefAt K mg "which_choose" s_which_choose) (T : Txt K mg t) (o_chooses : Ok P w K mg base 2 "chooses" ["part", "choosing"] (spV (R_chooses t))) : Ok P w K mg base 3 "which_choose" ["parts"] (spN (R_which_choose t)) := by
  refine ok_of D sc_which_choose (fun _ _ _ _ _ _ us hl => match us, hl with | [_], _ => rfl) (fun vs H Q E h => ?_) (fun f cdv A outer s H vs Q E hr h => ?_)
  · obtain ⟨Po, ⟨l, ps, rfl, _⟩, _⟩ := h
    rfl
  · obtain ⟨Po, ⟨l, ps, rfl, hP, hb, hc, rfl⟩, q⟩ := h
    obtain ⟨as, el, hal, hq⟩ := hP
    refine ⟨_, (pss_cons (ps_set (i := 1) sc_which_choose.nd rfl (Or.inl rfl) (pe_lst pa_nil))
      (pss_cons (ps_for PassesOwn.never rfl (pi_list (pv 0)) (pg_name (i := 2) sc_which_choose.nd rfl (Or.inl rfl))
        (pss_one (ps_expr (pe_bm PySem.F.plainAttrs_list PySem.F.slot_list_append PySem.F.type_list_append mt_append (pv 1) (pa_cons (pe_fn o_chooses (hr.mono (by omega)) (pa_cons (pv 2) (pa_cons (pv 1) pa_nil))) pa_nil)))))
      (pss_one (ps_ret (pv 1))))), ?_⟩
    refine rd_ssetC (rd_lst0 fun m hm => ?_)
    have s0 : Same H (upd H m (.lst [])) := Same.upd_new (Same.refl H) hm
    refine rd_sforL (xs := as.map V.ref) (val_var rfl) (SqL.of (s0 _ _ el))
      (fun i σ H' => ∃ v : Option V, σ = [some (.ref l), some (.ref m), v] ∧ Same H H' ∧ H' m = some (.lst ((choL (ps.take i)).map V.bl)))
      ⟨none, rfl, s0, upd_same⟩ (fun i σ H' _ ⟨_, _, s1, _⟩ => SqL.of (s1 _ _ el)) ?_ ?_
    · rintro i x σ H' hx ⟨v, rfl, s1, em⟩
      have hi : i < as.length := by
        have := (List.getElem?_eq_some_iff.mp hx).1
        rw [List.length_map] at this
        exact this
      have ea : as[i]? = some as[i] := List.getElem?_eq_getElem hi
      have ep : ps[i]? = some ps[i] := List.getElem?_eq_getElem (by omega)
      have ex : x = .ref as[i] := by
        rw [List.getElem?_map, ea] at hx
        exact (Option.some.inj hx).symm
      subst ex
      have hlen : (choL (ps.take i)).length = i := by rw [choL_len, List.length_take]; omega
      refine ⟨_, rfl, .inl ⟨rfl, _, SqL.of em⟩, rd_consV (val_call (va_cons (val_var rfl) (va_cons (val_var rfl) va_nil)) ⟨as[i], ps[i], m, choL (ps.take i), rfl, (hq i _ _ ea ep).same s1, em, by rw [hlen]; exact hc i _ ep, rfl⟩) ?_⟩
      refine ⟨m, _, _, rfl, rfl, em, ?_, ?_⟩
      · rw [List.length_map, hlen]
        exact small100 (by omega)
      · refine ⟨_, rfl, Same.upd_old s1 hm, ?_⟩
        rw [upd_same, choL_take ep, List.map_append]
        rfl
    · rintro σ H' ⟨v, rfl, s1, em⟩
      rw [List.length_map, List.take_of_length_le (by omega)] at em
      exact rd_ret (val_var rfl) (q _ _ s1 ⟨m, rfl, hm, em⟩)
/-! ### a cache -/
/-- what Held's __init__ makes -/
structure MadeHeld (t : Adr) (H H' : Hp) (p dx ka : Addr) (k : Kp120.Kind) (ha : Addr) (las : List Addr) : Prop where
  same : ∀ b o, b ≠ p → H b = some o → H' b = some o
  obj : H' p = some (.ins t.CHe dx (heldN.zip [.ref ka, .ref ha]))
  nha : H ha = none
  sets : H' ha = some (.lst (las.map V.ref))
  len : las.length = k.sets
  nd : las.Nodup
  new : ∀ a ∈ las, H a = none ∧ H' a = some (.lst [])
def sp_Held (t : Adr) : Sp := fun vs H Q _ => ∃ p dx ka k, vs = [.ref p, .ref ka] ∧ H p = some (.ins t.CHe dx []) ∧ KindAt t H ka k ∧ k.sets ≤ 16 ∧ ∀ H' ha las, MadeHeld t H H' p dx ka k ha las → Q .non H'
theorem ok_Held (h : ClsAt K mg "Held" "Held.__init__" s_Held t.CHe heldN) (T : Txt K mg t) : OkI P w K mg base 1 "Held" t.CHe ["self", "kind"] (sp_Held t) := by
  refine okI_of h sc_Held (fun _ _ _ _ _ _ us hl => match us, hl with | [_, _], _ => rfl) (fun vs H Q E h => ?_) (fun f cdv A outer s H vs Q E hr h => ?_)
  · obtain ⟨p, dx, ka, k, rfl, _⟩ := h
    rfl
  · obtain ⟨p, dx, ka, k, rfl, hp, hk, hs, q⟩ := h
    have nkp : ka ≠ p := by
      obtain ⟨dk, hk⟩ := hk
      exact ne_of hk hp (ne_ins (by show 4 ≠ 0; decide))
    refine ⟨_, (pss_cons (ps_fld (pv 0) (pv 1) rfl)
      (pss_one (ps_fld (pv 0) (pe_lcX (own := [("number", 2)]) (i := 2) rfl sc_Held.nd (pi_range1 (by rfl) T.b_range (pa_cons (pe_fld (pv 1) rfl) pa_nil)) (blkOk_by (by show blkC ["self", "kind", "number"] (defScope s_Held) _ _ = true; decide +kernel)) rfl rfl (fun _ _ _ _ _ => (pe_lst pa_nil))) rfl))), ?_⟩
    refine rd_seq (rd_st0 hp T.cHe.cl (T.cHe.na "kind" (List.mem_of_getElem? (i := 0) rfl)) (val_var rfl) (val_var rfl) ?_)
    have hk1 : KindAt t (upd H p (.ins t.CHe dx [("kind", .ref ka)])) ka k := by
      obtain ⟨dk, hk⟩ := hk
      exact ⟨dk, by rw [upd_ne nkp]; exact hk⟩
    obtain ⟨dk, hk1⟩ := hk1
    refine rd_stV (rd_lcr (j := (k.sets : Int)) (va_cons (val_f 1 (val_var rfl) hk1 T.cK rfl rfl) va_nil) (by omega) (by omega) fun Dl hDl => ?_)
    have nDp : Dl ≠ p := fun z => by rw [z, upd_same] at hDl; cases hDl
    have HD : H Dl = none := by rw [upd_ne nDp] at hDl; exact hDl
    refine lc_range (lo := 0) (n := ((k.sets : Int)).toNat) (fun i H' => ∃ las : List Addr, las.length = i ∧ las.Nodup ∧ (∀ a ∈ las, H a = none ∧ a ≠ p ∧ a ≠ Dl ∧ H' a = some (.lst [])) ∧ H' Dl = some (.lst (las.map V.ref)) ∧ H' p = some (.ins t.CHe dx [("kind", .ref ka)]) ∧ ∀ b o, b ≠ p → H b = some o → H' b = some o)
      ⟨[], rfl, List.nodup_nil, (fun a z => by cases z), upd_same, by rw [upd_ne (Ne.symm nDp)]; exact upd_same, fun b o nb e => by rw [upd_ne (ne_of_none e HD), upd_ne nb]; exact e⟩ ?_ ?_
    · rintro i H' hi ⟨las, hl, nd, hn, eD, ep, hsame⟩
      refine ⟨rfl, rd_yes (rd_lst0 fun a na => ?_)⟩
      have nap : a ≠ p := fun z => by rw [z, ep] at na; cases na
      have naD : a ≠ Dl := fun z => by rw [z, eD] at na; cases na
      have Ha : H a = none := by
        cases z : H a with
        | none => rfl
        | some o => rw [hsame a o nap z] at na; cases na
      refine ⟨las.map V.ref, by rw [upd_ne (Ne.symm naD)]; exact eD, by rw [List.length_map]; exact small100 (by omega), las ++ [a], by rw [List.length_append, hl]; rfl, ?_, ?_, by rw [upd_same, List.map_append]; rfl, ?_, ?_⟩
      · refine List.nodup_append.mpr ⟨nd, List.nodup_cons.mpr ⟨by simp, List.nodup_nil⟩, fun x hx y hy z => ?_⟩
        have hy : y = a := by simpa using hy
        subst hy
        subst z
        rw [(hn x hx).2.2.2] at na
        cases na
      · intro b hb
        rcases List.mem_append.mp hb with z | z
        · obtain ⟨g1, g2, g3, g4⟩ := hn b z
          exact ⟨g1, g2, g3, by rw [upd_ne g3, upd_ne (ne_of_none g4 na)]; exact g4⟩
        · have z : b = a := by simpa using z
          subst z
          exact ⟨Ha, nap, naD, by rw [upd_ne naD]; exact upd_same⟩
      · rw [upd_ne (Ne.symm nDp), upd_ne (Ne.symm nap)]
        exact ep
      · intro b o nb e
        rw [upd_ne (ne_of_none e HD), upd_ne (ne_of_none e Ha)]
        exact hsame b o nb e
    · rintro H' ⟨las, hl, nd, hn, eD, ep, hsame⟩
      refine val_var (v := .ref p) rfl _ ⟨p, t.CHe, dx, _, rfl, ep, T.cHe.cl, T.cHe.na "held" (List.mem_of_getElem? (i := 1) rfl), by show 1 < 1000; decide, ?_⟩
      rw [putF_new "held" _ _ (by show ("held" : Str) ∉ (["kind"] : List Str); decide +kernel)]
      refine q _ Dl las ⟨fun b o nb e => by rw [upd_ne nb]; exact hsame b o nb e, upd_same, HD, by rw [upd_ne nDp]; exact eD, by omega, nd, fun a ha => ⟨(hn a ha).1, by rw [upd_ne (hn a ha).2.1]; exact (hn a ha).2.2.2⟩⟩
def sp_use (t : Adr) : Sp := fun vs H Q _ => ∃ a dx ka ha k las c la, ∃ x : Nat, vs = [.ref a, .int (x : Int)] ∧ HeldAt t H a dx ka ha k las ∧ las.length = k.sets ∧ SetsAt H las (setsL k c) ∧ CacheOk k c ∧ (1 ≤ k.sets ∧ k.sets ≤ 16 ∧ 1 ≤ k.ways ∧ k.ways ≤ 8) ∧
  las[Kp120.setOf k (Kp120.lineOf k x)]? = some la ∧ Q (.bl (Kp120.hit c (Kp120.lineOf k x))) (upd H la (.lst (nV (newSet (Kp120.ofSet k c (Kp120.setOf k (Kp120.lineOf k x))) (Kp120.lineOf k x) k.ways))))
theorem ok_Held_use (D : MethAt K t.CHe "use" "Held.use" s_Held_use) (T : Txt K mg t) (o_line_of : Ok P w K mg base 1 "line_of" ["kind", "byte"] (spV (R_line_of t))) : OkM P w K mg base CX0 2 t.CHe "use" ["self", "byte"] (sp_use t) := by
  refine okM_of T.cHe.cl D sc_Held_use (fun _ _ _ _ _ _ us hl => match us, hl with | [_, _], _ => rfl) (fun vs H Q E h => ?_) (fun f cdv A outer s H vs Q E hr h => ?_)
  · obtain ⟨a, dx, ka, ha, k, las, c, la, x, rfl, _⟩ := h
    rfl
  · obtain ⟨a, dx, ka, ha, k, las, c, la, x, rfl, hh, hl, hs, hc, hg, ela, q⟩ := h
    have hk := hh.kind
    obtain ⟨dk, hk⟩ := hk
    have hss : Kp120.setOf k (Kp120.lineOf k x) < k.sets := Nat.mod_lt _ hg.1
    have hla := hs _ _ _ ela (setsL_get k c hss)
    have hlen := hc.2 (Kp120.setOf k (Kp120.lineOf k x))
    generalize hls : Kp120.ofSet k c (Kp120.setOf k (Kp120.lineOf k x)) = ls at hla hlen q
    have hit : inV (.int ((Kp120.lineOf k x : Nat) : Int)) (nV ls) = Kp120.hit c (Kp120.lineOf k x) := by
      rw [nV_in, hit_set k, hls]
    refine ⟨_, (pss_cons (ps_set (i := 2) sc_Held_use.nd rfl (Or.inl rfl) (pe_fn o_line_of (hr.mono (by omega)) (pa_cons (pe_fld (pv 0) rfl) (pa_cons (pv 1) pa_nil))))
      (pss_cons (ps_set (i := 3) sc_Held_use.nd rfl (Or.inl rfl) (pe_ix ix_list (pe_fld (pv 0) rfl) (pe_op op_mod (pv 2) (pe_fld (pe_fld (pv 0) rfl) rfl)) (fun _ _ => rfl)))
      (pss_cons (ps_set (i := 4) sc_Held_use.nd rfl (Or.inl rfl) (pe_cmpR op_in_seq (pv 2) (pv 3) (by with_unfolding_all rfl)))
      (pss_cons (ps_if (pt_val (pv 4))
        (pss_one (ps_expr (pe_bm PySem.F.plainAttrs_list PySem.F.slot_list_remove PySem.F.type_list_remove mt_removeN (pv 3) (pa_cons (pv 2) pa_nil))))
        (pss_one (ps_if (pt_cmpR op_eq (pe_callB call_len_seq (by rfl) T.b_len PySem.boot_len (pa_cons (pv 3) pa_nil)) (pe_fld (pe_fld (pv 0) rfl) rfl) (nomark _))
          (pss_one (ps_expr (pe_bm0 PySem.F.plainAttrs_list PySem.F.slot_list_pop PySem.F.type_list_pop mt_pop (pv 3))))
          pss_nil)))
      (pss_cons (ps_expr (pe_bm PySem.F.plainAttrs_list PySem.F.slot_list_insert PySem.F.type_list_insert mt_insert0 (pv 3) (pa_cons pe_int (pa_cons (pv 2) pa_nil))))
      (pss_one (ps_ret (pv 4)))))))), ?_⟩
    refine rd_sset (val_call (va_cons (val_f 0 (val_var rfl) hh.obj T.cHe rfl rfl) (va_cons (val_var rfl) va_nil)) ⟨ka, k, x, rfl, hh.kind, rfl⟩) ?_
    refine rd_sset (val_ix (v := .ref la) (val_f 1 (val_var rfl) hh.obj T.cHe rfl rfl) (val_I (val_var rfl) (val_f 1 (val_f 0 (val_var rfl) hh.obj T.cHe rfl rfl) hk T.cK rfl rfl) (by show (0 : Int) < (k.sets : Int); omega)) (SqL.of hh.sets) ?_) ?_
    · refine at_of (j := Kp120.setOf k (Kp120.lineOf k x)) ?_ (by rw [List.getElem?_map, ela]; rfl)
      unfold Kp120.setOf
      rw [Int.natCast_emod]
    · refine rd_sset (val_inL (val_var rfl) (val_var rfl) (SqL.of hla) rfl (nV_flat _)) ?_
      rw [hit]
      have fin : ∀ (o : HO) (ys : List Nat), upd H la o la = some (.lst (nV ys)) → ys.length ≤ 8 → newSet ls (Kp120.lineOf k x) k.ways = Kp120.lineOf k x :: ys → tSeq (tDrop (tBM K "list" rInsert0 (tVar 3) (tCons (tC (.int 0)) (tCons (tVar 2) tNil)))) (tRet (tVar 4)) { nx := fun _ H' => Q .non H', rt := Q }
          [some (.ref a), some (.int (x : Int)), some (.int ((Kp120.lineOf k x : Nat) : Int)), some (.ref la), some (.bl (Kp120.hit c (Kp120.lineOf k x)))] (upd H la o) := by
        intro o ys e hy en
        refine ⟨_, rfl, .inl ⟨rfl, _, SqL.of e⟩, rd_consV val_c (rd_consV (val_var rfl) ?_)⟩
        refine ⟨la, nV ys, _, rfl, rfl, e, by rw [nV_len]; exact small100 (by omega), ?_⟩
        refine rd_ret (val_var rfl) ?_
        rw [upd_upd]
        rw [en] at q
        exact q
      refine rd_seq (rd_if (vt_b (val_var rfl)) (fun e => ?_) (fun e => ?_))
      · have hm : Kp120.lineOf k x ∈ ls := by
          rw [hit_set k, hls] at e
          simpa using e
        refine ⟨_, rfl, .inl ⟨rfl, _, SqL.of hla⟩, rd_consV (val_var rfl) ?_⟩
        refine ⟨la, ls, _, rfl, rfl, hla, hm, ?_⟩
        refine fin _ (ls.erase (Kp120.lineOf k x)) upd_same (by rw [List.length_erase_of_mem hm]; omega) ?_
        unfold newSet
        rw [if_pos (by simpa using hm)]
      · have hm : ¬ Kp120.lineOf k x ∈ ls := by
          rw [hit_set k, hls] at e
          simpa using e
        refine rd_if (vt_test (val_eqI (val_cb (va_cons (val_var rfl) va_nil) fun Q q => ⟨la, _, rfl, .inl (SqL.of hla), q⟩) (val_f 2 (val_f 0 (val_var rfl) hh.obj T.cHe rfl rfl) hk T.cK rfl rfl))) (fun e2 => ?_) (fun e2 => ?_)
        · have e2 : ls.length = k.ways := by
            rw [nV_len] at e2
            exact nat_of_dec e2
          have ne : ls ≠ [] := fun z => by rw [z] at e2; simp at e2; omega
          refine ⟨_, rfl, .inl ⟨rfl, _, SqL.of hla⟩, ?_⟩
          refine ⟨la, _, .int ((ls.getLast ne : Nat) : Int), rfl, rfl, hla, ?_, ?_⟩
          · rw [nV_len]
            exact nV_get (by rw [List.getLast_eq_getElem, List.getElem?_eq_getElem])
          · refine fin _ ls.dropLast (by rw [upd_same]; unfold nV; rw [List.map_dropLast]) (by rw [List.length_dropLast]; omega) ?_
            unfold newSet
            rw [if_neg (by simpa using hm), if_pos e2]
        · have e2 : ¬ ls.length = k.ways := by
            rw [nV_len] at e2
            exact nat_of_ndec e2
          refine rd_next ?_
          have hu : upd H la (.lst (nV ls)) = H := upd_id hla
          have := fin (.lst (nV ls)) ls upd_same (by omega) (by
            unfold newSet
            rw [if_neg (by simpa using hm), if_neg e2])
          rw [hu] at this
          exact this
/-! ### whether it matters, the next choice -/
def sp_matters (K : PySem.W.Frag) (t : Adr) (D : RD) : Sp := fun vs H Q _ => ∃ A S, ∃ i : Nat, vs = [.ref A.r, .int (i : Int)] ∧ RunAt K t D A H S ∧ i < D.ps.length ∧ Q (.bl (decide (S.steps ≤ 65536) || cho (Tr D.h i))) H
theorem ok_Run_matters (M : MethAt K t.CR "matters" "Run.matters" s_Run_matters) (T : Txt K mg t) (D : RD) : OkM P w K mg base CX0 1 t.CR "matters" ["self", "place"] (sp_matters K t D) := by
  refine okM_of T.cR.cl M sc_Run_matters (fun _ _ _ _ _ _ us hl => match us, hl with | [_, _], _ => rfl) (fun vs H Q E h => ?_) (fun f cdv A outer s H vs Q E hr h => ?_)
  · obtain ⟨A, S, i, rfl, _⟩ := h
    rfl
  · obtain ⟨B, S, i, rfl, R, hi, q⟩ := h
    obtain ⟨n, hn, hl, hp⟩ := R.run
    obtain ⟨f1, f2, f3, f4, f5, f6⟩ := R.fix.parts
    have hcho := hide_same B H _ _ R.fix.cho
    refine ⟨_, (pss_one (ps_ret (pe_or (pe_cmpR op_le (pe_fld (pv 0) rfl) (pe_gl T.g_MOST_MADE) (nomark _)) (pe_one (pe_ix ix_list (pe_fld (pv 0) rfl) (pv 1) (fun _ _ => rfl)))))), ?_⟩
    refine rd_ret (val_or (val_I0 (val_f 4 (val_var rfl) hp T.cR rfl rfl) val_c) (fun _ => val_ix (val_f 3 (val_var rfl) hp T.cR rfl rfl) (val_var rfl) (SqL.of hcho) (atI_nat (v := V.bl (cho (Tr D.h i))) (by rw [List.getElem?_map, choL_get f3 f2 hi]; rfl)))) ?_
    have z : decide ((S.steps : Int) ≤ 65536) = decide (S.steps ≤ 65536) := by
      rw [Bool.eq_iff_iff]
      simp only [decide_eq_true_eq]
      omega
    rw [z]
    exact q
def sp_choose (K : PySem.W.Frag) (t : Adr) (D : RD) : Sp := fun vs H Q E => ∃ A S, ∃ last : Int, vs = [.ref A.r, .int last] ∧ RunAt K t D A H S ∧ ((∀ k r, S.left_ = k :: r → last < (k : Int)) → E (.ref t.CW) none H) ∧
  ∀ k r, S.left_ = k :: r → (k : Int) ≤ last → ∀ H', Out A H H' → RunAt K t D A H' { S with left_ := r } → Q (.int (k : Int)) H'
theorem drop_cons {l : List Nat} {n k : Nat} {r : List Nat} (h : l.drop n = k :: r) : n < l.length ∧ l[n]? = some k ∧ l.drop (n + 1) = r := by
  have hn : n < l.length := by
    by_cases z : n < l.length
    · exact z
    · rw [List.drop_eq_nil_of_le (by omega)] at h
      cases h
  rw [List.drop_eq_getElem_cons hn] at h
  injection h with h1 h2
  exact ⟨hn, by rw [List.getElem?_eq_getElem hn, h1], h2⟩
theorem ok_Run_choose (M : MethAt K t.CR "choose" "Run.choose" s_Run_choose) (T : Txt K mg t) (D : RD) : OkM P w K mg base (CX1 P w) 1 t.CR "choose" ["self", "last"] (sp_choose K t D) := by
  refine okM1_of T.cR.cl M sc_Run_choose (fun _ _ _ _ _ _ us hl => match us, hl with | [_, _], _ => rfl) (fun vs H Q E h => ?_) (fun f cdv A outer s H vs Q E hr h => ?_)
  · obtain ⟨A, S, last, rfl, _⟩ := h
    rfl
  · obtain ⟨B, S, last, rfl, R, q1, q2⟩ := h
    obtain ⟨n, hn, hl, hp⟩ := R.run
    have hS := (hide_same B H).seq R.fix.choice
    refine ⟨_, (pss_cons (ps_if (PW.pt (pw_or (pt_cmpR op_eq (pe_fld (pv 0) rfl) (pe_callB call_len_seq (by rfl) T.b_len PySem.boot_len (pa_cons (pe_fld (pv 0) rfl) pa_nil)) (nomark _)) (pw_or1 (pt_cmpR op_gt (pe_ix ix_list (pe_fld (pv 0) rfl) (pe_fld (pv 0) rfl) (fun _ _ => rfl)) (pv 1) (nomark _)))))
        (pss_one (ps_raise0 leaves_cx T.x_WrongChoices T.m_WrongChoices))
        pss_nil)
      (pss_cons (ps_fldaug (pv 0) pe_int in_add)
      (pss_one (ps_ret (pe_ix ix_list (pe_fld (pv 0) rfl) (pe_op op_sub (pe_fld (pv 0) rfl) pe_int) (fun _ _ => rfl)))))), ?_⟩
    cases e : S.left_ with
    | nil =>
      have en : n = D.l.length := by
        rw [hl] at e
        have := List.drop_eq_nil_iff.mp e
        omega
      refine rd_ifN (b := true) (valT_eq (vt_or (b := false) (vt_test (val_eqI (val_f 2 (val_var rfl) hp T.cR rfl rfl) (val_cb (va_cons (val_f 1 (val_var rfl) hp T.cR rfl rfl) va_nil) fun Q q => ⟨_, _, rfl, .inl hS, q⟩))) (fun z => ?_)) ?_) (fun _ => q1 fun k r z => by rw [e] at z; cases z) (fun z => by cases z)
      · rw [nV_len, en] at z
        simp at z
      · rw [nV_len, en]
        simp
    | cons k r =>
      obtain ⟨g1, g2, g3⟩ := drop_cons (hl.symm.trans e)
      have ex := nV_get g2
      refine rd_ifN (vt_or (vt_test (val_eqI (val_f 2 (val_var rfl) hp T.cR rfl rfl) (val_cb (va_cons (val_f 1 (val_var rfl) hp T.cR rfl rfl) va_nil) fun Q q => ⟨_, _, rfl, .inl hS, q⟩))) (fun _ => vt_test (val_I0 (val_ix (val_f 1 (val_var rfl) hp T.cR rfl rfl) (val_f 2 (val_var rfl) hp T.cR rfl rfl) hS (atI_nat ex)) (val_var rfl)))) (fun z => ?_) (fun z => ?_)
      · refine q1 fun k' r' z' => ?_
        rw [e] at z'
        cases z'
        rw [nV_len] at z
        simp at z
        omega
      · have hk : (k : Int) ≤ last := by
          rw [nV_len] at z
          simp at z
          omega
        have R' : RunAt K t D B (upd H B.r (.ins t.CR B.dx (runN.zip (runF B (n + 1) { S with left_ := r })))) { S with left_ := r } := R.own (by omega) g3.symm rfl
        refine rd_saug (us' := runF B (n + 1) { S with left_ := r }) 2 T.cR (val_var rfl) hp rfl rfl val_c rfl (by show 8 < 1000; decide) rfl ?_
        have hp' : upd H B.r (.ins t.CR B.dx (runN.zip (runF B (n + 1) { S with left_ := r }))) B.r = some (.ins t.CR B.dx (runN.zip (runF B (n + 1) { S with left_ := r }))) := upd_same
        have hS' := (hide_same B _).seq R'.fix.choice
        refine rd_ret (val_ix (val_f 1 (val_var rfl) hp' T.cR rfl rfl) (val_I0 (val_f 2 (val_var rfl) hp' T.cR rfl rfl) val_c) hS' (at_of (j := n) (by show (((n + 1 : Nat) : Int)) - 1 = _; omega) ex)) ?_
        exact q2 k r e hk _ RunAt.out_own R'
end
end My
namespace My
open PySem PySem.Spec PyProof.Rows L2
open Kp121 (Part Going)
theorem if_join {c A B : Prop} [Decidable c] {N : Hp → Prop} (R : Hp → Prop) (h2 : ¬ c → (∀ H', R H' → N H') → B) (h1 : c → (∀ H', R H' → N H') → A) (k : ∀ H', R H' → N H') : if c then A else B := ite2 (fun z => h1 z k) (fun z => h2 z k)
section
variable {P : Program} {w : World} {K : PySem.W.Frag} {mg : Str → Option Value} {base : Heap} {t : Adr}
/-! ### a step -/
def stepT (p : Part) : Kp121.Tree := .step p.a p.b (if p.d < p.c then none else some (p.c, p.d))
def sp_step (K : PySem.W.Frag) (t : Adr) (D : RD) : Sp := fun vs H Q E => ∃ A S pa p, vs = [.ref A.r, .ref pa] ∧ RunAt K t D A H S ∧ PartAt t (hide A H) pa p ∧ (Kp121.goes D.h (stepT p) S = none → ∀ H', Out A H H' → E (.ref t.CW) none H') ∧
  ∀ S', Kp121.goes D.h (stepT p) S = some S' → ∀ H', Out A H H' → RunAt K t D A H' S' → Q .non H'
theorem ok_Run_run_step (M : MethAt K t.CR "run_step" "Run.run_step" s_Run_run_step) (T : Txt K mg t) (D : RD) (o_Held_use : OkM P w K mg base CX0 2 t.CHe "use" ["self", "byte"] (sp_use t)) (o_Run_choose : OkM P w K mg base (CX1 P w) 1 t.CR "choose" ["self", "last"] (sp_choose K t D))
    (o_has_bytes : Ok P w K mg base 1 "has_bytes" ["step"] (spV (R_has_bytes t))) : OkM P w K mg base (CX1 P w) 3 t.CR "run_step" ["self", "step"] (sp_step K t D) := by
  refine okM1_of T.cR.cl M sc_Run_run_step (fun _ _ _ _ _ _ us hl => match us, hl with | [_, _], _ => rfl) (fun vs H Q E h => ?_) (fun f cdv A outer s H vs Q E hr h => ?_)
  · obtain ⟨A, S, pa, p, rfl, _⟩ := h
    rfl
  · obtain ⟨B, S, pa, p, rfl, R, hPart, q1, q2⟩ := h
    obtain ⟨n, hn, hl, hp⟩ := R.run
    obtain ⟨f1, f2, f3, f4, f5, f6⟩ := R.fix.parts
    have pAt : ∀ H', Out B H H' → PartAt t H' pa p := fun H' o => by
      have : PartAt t (hide B H') pa p := by rw [show hide B H' = hide B H from o]; exact hPart
      exact this.same (hide_same B H')
    refine ⟨_, (pss_cons (ps_fldaug (pv 0) pe_int in_add)
      (pss_cons (ps_fldaug (pv 0) (pe_fld (pv 1) rfl) in_add)
      (pss_cons (ps_if (pt_not (pt_val (pe_m o_Held_use (hr.mono (by omega)) pass0 (pe_fld (pv 0) rfl) (pa_cons (pe_fld (pv 1) rfl) pa_nil))))
        (pss_one (ps_fldaug (pv 0) (pe_fld (pe_fld (pv 0) rfl) rfl) in_add))
        pss_nil)
      (pss_one (ps_if (PW.pt (pw_and (pt_val (pe_fn o_has_bytes (hr.mono (by omega)) (pa_cons (pv 1) pa_nil))) (pw_and1 (pt_not (pt_val (pe_m o_Held_use (hr.mono (by omega)) pass0 (pe_fld (pv 0) rfl) (pa_cons (pe_op op_add (pe_fld (pv 1) rfl) (pe_m o_Run_choose (hr.mono (by omega)) leaves_cx.passes (pv 0) (pa_cons (pe_op op_sub (pe_fld (pv 1) rfl) (pe_fld (pv 1) rfl)) pa_nil))) pa_nil)))))))
        (pss_one (ps_fldaug (pv 0) (pe_fld (pe_fld (pv 0) rfl) rfl) in_add))
        pss_nil))))), ?_⟩
    refine rd_saug (us' := runF B n { S with steps := S.steps + 1 }) 4 T.cR (val_var rfl) hp rfl rfl val_c rfl (by show 8 < 1000; decide) rfl ?_
    have R1 : RunAt K t D B (upd H B.r (.ins t.CR B.dx (runN.zip (runF B n { S with steps := S.steps + 1 })))) { S with steps := S.steps + 1 } := R.own hn hl rfl
    have o1 : Out B H (upd H B.r (.ins t.CR B.dx (runN.zip (runF B n { S with steps := S.steps + 1 })))) := RunAt.out_own
    generalize upd H B.r (.ins t.CR B.dx (runN.zip (runF B n { S with steps := S.steps + 1 }))) = H1 at R1 o1 ⊢
    obtain ⟨n1, hn1, hl1, hp1⟩ := R1.run
    obtain ⟨d1, hpp1⟩ := pAt H1 o1
    refine rd_saug (us' := runF B n1 { S with steps := S.steps + 1, time := S.time + p.b }) 5 T.cR (val_var rfl) hp1 rfl rfl (val_f 2 (val_var rfl) hpp1 T.cP rfl rfl) rfl (by show 8 < 1000; decide) rfl ?_
    have R2 : RunAt K t D B (upd H1 B.r (.ins t.CR B.dx (runN.zip (runF B n1 { S with steps := S.steps + 1, time := S.time + p.b })))) { S with steps := S.steps + 1, time := S.time + p.b } := R1.own hn1 hl1 rfl
    have o2 : Out B H (upd H1 B.r (.ins t.CR B.dx (runN.zip (runF B n1 { S with steps := S.steps + 1, time := S.time + p.b })))) := o1.trans RunAt.out_own
    generalize upd H1 B.r (.ins t.CR B.dx (runN.zip (runF B n1 { S with steps := S.steps + 1, time := S.time + p.b }))) = H2 at R2 o2 ⊢
    obtain ⟨n2, hn2, hl2, hp2⟩ := R2.run
    obtain ⟨d2, hpp2⟩ := pAt H2 o2
    have hss : Kp120.setOf D.code (Kp120.lineOf D.code p.a) < B.lc.length := by rw [R.fix.nc]; exact Nat.mod_lt _ f5.1
    have ela := List.getElem?_eq_getElem hss
    obtain ⟨R3, o3⟩ := R2.code f5.2.2.1 ela
    have hco := R2.fix.co.same (hide_same B H2)
    refine rd_seq (rd_ifC (rd_notB (rd_meth (val_f 6 (val_var rfl) hp2 T.cR rfl rfl) hco.obj (by decide +kernel) (va_cons (val_f 1 (val_var rfl) hpp2 T.cP rfl rfl) va_nil) ⟨B.co, B.dco, B.kc, B.hc, D.code, B.lc, S.c.code, _, p.a, rfl, hco, R.fix.nc, R2.sc, R2.okc, f5, ela, _, rfl, ?_⟩)))
    have o3 := o2.trans o3
    generalize upd H2 _ _ = H3 at R3 o3 ⊢
    generalize hhit : Kp120.hit S.c.code (Kp120.lineOf D.code p.a) = hit
    refine if_join (fun H' => Out B H H' ∧ RunAt K t D B H' ⟨S.left_, ⟨Kp120.use D.code S.c.code (Kp120.lineOf D.code p.a), S.c.data⟩, S.time + p.b + (if hit = true then 0 else D.cm), S.steps + 1⟩) (fun hb nx => nx _ ⟨o3, ?_⟩) (fun hb nx => ?_) ?_
    · have hb : hit = true := by simpa using hb
      rw [if_pos hb]
      exact R3
    · have hb : ¬ hit = true := by simpa using hb
      obtain ⟨n3, hn3, hl3, hp3⟩ := R3.run
      have hw := R3.fix.how
      obtain ⟨dh, ca, da, lp, eh, _⟩ := hw
      have eh := hide_same B H3 _ _ eh
      refine rd_aug (us' := runF B n3 ⟨S.left_, ⟨Kp120.use D.code S.c.code (Kp120.lineOf D.code p.a), S.c.data⟩, S.time + p.b + (if hit = true then 0 else D.cm), S.steps + 1⟩) 5 T.cR (val_var rfl) hp3 rfl rfl (val_f 2 (val_f 0 (val_var rfl) hp3 T.cR rfl rfl) eh T.cH rfl rfl) rfl (by show 8 < 1000; decide) (by rw [if_neg hb]; rfl) (nx _ ⟨o3.trans RunAt.out_own, R3.own hn3 hl3 rfl⟩)
    · rintro H4 ⟨o4, R4⟩
      obtain ⟨n4, hn4, hl4, hp4⟩ := R4.run
      have hpp4 := pAt H4 o4
      by_cases hcd : p.c ≤ p.d
      · have eT : stepT p = .step p.a p.b (some (p.c, p.d)) := by
          unfold stepT
          rw [if_neg (by omega)]
        refine rd_ifC (rd_andT (valT_eq (vt_b (val_call (va_cons (val_var rfl) va_nil) ⟨pa, p, rfl, hpp4, rfl⟩)) (decide_eq_true (by omega))) (rd_notB ?_))
        have hda := R4.fix.da.same (hide_same B H4)
        obtain ⟨d4, hpp4⟩ := hpp4
        refine rd_methC (val_f 7 (val_var rfl) hp4 T.cR rfl rfl) hda.obj (by decide +kernel) (rd_cons (rd_opV (val_f 3 (val_var rfl) hpp4 T.cP rfl rfl) (rd_meth (E := E) (val_var rfl) hp4 (by decide +kernel) (va_cons (val_I0 (val_f 4 (val_var rfl) hpp4 T.cP rfl rfl) (val_f 3 (val_var rfl) hpp4 T.cP rfl rfl)) va_nil) ⟨B, _, _, rfl, R4, fun hw => q1 ?_ _ o4, fun k r e hk H5 o5 R5 => ?_⟩)))
        · rw [eT]
          show (match S.left_ with | [] => none | k :: r => if p.d < p.c + k then none else some _) = none
          cases e : S.left_ with
          | nil => rfl
          | cons k r =>
            have := hw k r e
            show (if p.d < p.c + k then none else some _) = none
            rw [if_pos (by omega)]
        · have hk : p.c + k ≤ p.d := by omega
          have hss5 : Kp120.setOf D.data (Kp120.lineOf D.data (p.c + k)) < B.ld.length := by rw [R.fix.nd]; exact Nat.mod_lt _ f6.1
          have ela5 := List.getElem?_eq_getElem hss5
          have o5 := o4.trans o5
          obtain ⟨R6, o6⟩ := R5.data f6.2.2.1 ela5
          have o6 := o5.trans o6
          have hda5 := R5.fix.da.same (hide_same B H5)
          refine ⟨_, _, rfl, rfl, B.da, B.dda, B.kd, B.hd, D.data, B.ld, S.c.data, _, p.c + k, rfl, hda5, R.fix.nd, R5.sd, R5.okd, f6, ela5, _, rfl, ?_⟩
          generalize upd H5 _ _ = H6 at R6 o6 ⊢
          have eg : Kp121.goes D.h (stepT p) S = some ⟨r, ⟨Kp120.use D.code S.c.code (Kp120.lineOf D.code p.a), Kp120.use D.data S.c.data (Kp120.lineOf D.data (p.c + k))⟩, S.time + p.b + (if hit = true then 0 else D.cm) + (if Kp120.hit S.c.data (Kp120.lineOf D.data (p.c + k)) = true then 0 else D.dm), S.steps + 1⟩ := by
            rw [eT]
            show (match S.left_ with | [] => none | k :: r => if p.d < p.c + k then none else some _) = _
            rw [e]
            show (if p.d < p.c + k then none else some _) = _
            rw [if_neg (by omega), ← hhit]
            show some (⟨r, _, S.time + (p.b + (if Kp120.hit S.c.code (Kp120.lineOf D.code p.a) = true then 0 else D.cm) + (if Kp120.hit S.c.data (Kp120.lineOf D.data (p.c + k)) = true then 0 else D.dm)), _⟩ : Going) = _
            rw [← Nat.add_assoc, ← Nat.add_assoc]
            rfl
          refine ite2 (fun hb => ?_) (fun hb => ?_)
          · have hb : ¬ Kp120.hit S.c.data (Kp120.lineOf D.data (p.c + k)) = true := by simpa using hb
            rw [if_neg hb] at eg
            obtain ⟨n6, hn6, hl6, hp6⟩ := R6.run
            have hw := R6.fix.how
            obtain ⟨dh, ca, da, lp, eh, _⟩ := hw
            have eh := hide_same B H6 _ _ eh
            exact rd_aug (us' := runF B n6 ⟨r, ⟨Kp120.use D.code S.c.code (Kp120.lineOf D.code p.a), Kp120.use D.data S.c.data (Kp120.lineOf D.data (p.c + k))⟩, S.time + p.b + (if hit = true then 0 else D.cm) + D.dm, S.steps + 1⟩) 5 T.cR (val_var rfl) hp6 rfl rfl (val_f 3 (val_f 0 (val_var rfl) hp6 T.cR rfl rfl) eh T.cH rfl rfl) rfl (by show 8 < 1000; decide) rfl (q2 _ eg _ (o6.trans RunAt.out_own) (R6.own hn6 hl6 rfl))
          · have hb : Kp120.hit S.c.data (Kp120.lineOf D.data (p.c + k)) = true := by simpa using hb
            rw [if_pos hb] at eg
            exact rd_next (q2 _ eg _ o6 R6)
      · have eT : stepT p = .step p.a p.b none := by
          unfold stepT
          rw [if_pos (by omega)]
        refine rd_ifC (rd_andF (valT_eq (vt_b (val_call (va_cons (val_var rfl) va_nil) ⟨pa, p, rfl, hpp4, rfl⟩)) (decide_eq_false (by omega))) (iteF (rd_next (q2 _ ?_ _ o4 R4))))
        rw [eT, ← hhit]
        show some (⟨S.left_, _, S.time + (p.b + (if Kp120.hit S.c.code (Kp120.lineOf D.code p.a) = true then 0 else D.cm) + 0), _⟩ : Going) = _
        rw [Nat.add_zero, ← Nat.add_assoc]
        rfl
/-! ### a loop, a part -/
def sp_run (K : PySem.W.Frag) (t : Adr) (D : RD) (d : Nat) : Sp := fun vs H Q E => ∃ A S g, ∃ i : Nat, vs = [.ref A.r, .int (i : Int)] ∧ RunAt K t D A H S ∧ Rel S g ∧ i < D.ps.length ∧ dep D.ps i ≤ d ∧ (Kp121.goes D.h (Tr D.h i) g = none → ∀ H', Out A H H' → E (.ref t.CW) none H') ∧
  ∀ g', Kp121.goes D.h (Tr D.h i) g = some g' → ∀ S' H', Out A H H' → RunAt K t D A H' S' → Rel S' g' → Q .non H'
def sp_loop (K : PySem.W.Frag) (t : Adr) (D : RD) (d : Nat) : Sp := fun vs H Q E => ∃ A S g pa p, vs = [.ref A.r, .ref pa] ∧ RunAt K t D A H S ∧ Rel S g ∧ PartAt t (hide A H) pa p ∧ p.a < D.ps.length ∧ dep D.ps p.a ≤ d ∧ (Kp121.goes D.h (.again (Tr D.h p.a) p.b) g = none → ∀ H', Out A H H' → E (.ref t.CW) none H') ∧
  ∀ g', Kp121.goes D.h (.again (Tr D.h p.a) p.b) g = some g' → ∀ S' H', Out A H H' → RunAt K t D A H' S' → Rel S' g' → Q .non H'
theorem ok_Run_run_loop (M : MethAt K t.CR "run_loop" "Run.run_loop" s_Run_run_loop) (T : Txt K mg t) (D : RD) (d kk : Nat) (hkk : 1 ≤ kk) (o_Run_choose : OkM P w K mg base (CX1 P w) 1 t.CR "choose" ["self", "last"] (sp_choose K t D)) (o_Run_matters : OkM P w K mg base CX0 1 t.CR "matters" ["self", "place"] (sp_matters K t D))
    (o_Run_run : OkM P w K mg base (CX1 P w) kk t.CR "run" ["self", "place"] (sp_run K t D d)) : OkM P w K mg base (CX1 P w) (kk + 1) t.CR "run_loop" ["self", "loop"] (sp_loop K t D d) := by
  refine okM1_of T.cR.cl M sc_Run_run_loop (fun _ _ _ _ _ _ us hl => match us, hl with | [_, _], _ => rfl) (fun vs H Q E h => ?_) (fun f cdv A outer s H vs Q E hr h => ?_)
  · obtain ⟨A, S, g, pa, p, rfl, _⟩ := h
    rfl
  · obtain ⟨B, S, g, pa, p, rfl, R, rel, hPart, hpa, hdep, q1, q2⟩ := h
    obtain ⟨n, hn, hl, hp⟩ := R.run
    have pAt : ∀ H', Out B H H' → PartAt t H' pa p := fun H' o => by
      have : PartAt t (hide B H') pa p := by rw [show hide B H' = hide B H from o]; exact hPart
      exact this.same (hide_same B H')
    obtain ⟨d0, hpp0⟩ := pAt H (Out.refl B H)
    refine ⟨_, (pss_cons (ps_set (i := 2) sc_Run_run_loop.nd rfl (Or.inl rfl) (pe_m o_Run_choose (hr.mono (by omega)) leaves_cx.passes (pv 0) (pa_cons (pe_fld (pv 1) rfl) pa_nil)))
      (pss_one (ps_while leaves_cx.own (PW.pt (pw_and (pt_cmpR op_gt (pv 2) pe_int (nomark _)) (pw_and1 (pt_val (pe_m o_Run_matters (hr.mono (by omega)) pass0 (pv 0) (pa_cons (pe_fld (pv 1) rfl) pa_nil))))))
        (pss_cons (ps_expr (pe_m o_Run_run (hr.mono (by omega)) leaves_cx.passes (pv 0) (pa_cons (pe_fld (pv 1) rfl) pa_nil)))
        (pss_one (ps_aug (i := 2) sc_Run_run_loop.nd rfl (Or.inl rfl) pe_int ip_sub)))))), ?_⟩
    refine rd_ssetC (rd_meth (E := E) (val_var rfl) hp (by decide +kernel) (va_cons (val_f 2 (val_var rfl) hpp0 T.cP rfl rfl) va_nil) ⟨B, S, _, rfl, R, fun hw => q1 ?_ _ (Out.refl B H), fun k r e hk H1 o1 R1 => ?_⟩)
    · show (match g.left_ with | [] => none | k :: r => if p.b < k then none else _) = none
      rw [← rel.left]
      cases e : S.left_ with
      | nil => rfl
      | cons k r =>
        have := hw k r e
        show (if p.b < k then none else _) = none
        rw [if_pos (by omega)]
    · have eg : Kp121.goes D.h (.again (Tr D.h p.a) p.b) g = Kp121.times (Kp121.goes D.h (Tr D.h p.a)) k { g with left_ := r } := by
        show (match g.left_ with | [] => none | k :: r => if p.b < k then none else Kp121.times (Kp121.goes D.h (Tr D.h p.a)) k { g with left_ := r }) = _
        rw [← rel.left, e]
        show (if p.b < k then none else _) = _
        rw [if_neg (by omega)]
      refine ⟨fun m σ H' => ∃ S' g', σ = [some (.ref B.r), some (.ref pa), some (.int (m : Int))] ∧ Out B H H' ∧ RunAt K t D B H' S' ∧ Rel S' g' ∧ Kp121.times (Kp121.goes D.h (Tr D.h p.a)) m g' = Kp121.goes D.h (.again (Tr D.h p.a) p.b) g, ⟨k, _, _, rfl, o1, R1, rel.take r, eg.symm⟩, ?_⟩
      rintro m σ H' ⟨S', g', rfl, o', R', rel', et⟩
      obtain ⟨n', hn', hl', hp'⟩ := R'.run
      obtain ⟨d', hpp'⟩ := pAt H' o'
      cases m with
      | zero => exact rd_andF (valT_eq (vt_test (val_I0 (val_var rfl) val_c)) (by simp)) (iteF (q2 g' et.symm S' H' o' R' rel'))
      | succ m =>
        refine rd_andT (valT_eq (vt_test (val_I0 (val_var rfl) val_c)) (by simp)) (rd_B (rd_meth (val_var rfl) hp' (by decide +kernel) (va_cons (val_f 1 (val_var rfl) hpp' T.cP rfl rfl) va_nil) ⟨B, S', p.a, rfl, R', hpa, _, rfl, ite2 (fun hb => ?_) (fun hb => ?_)⟩))
        · refine ⟨_, fun σ' H'' w => ⟨m, Nat.lt_succ_self m, w⟩, ?_⟩
          refine rd_seq (rd_drop (rd_meth (E := E) (val_var rfl) hp' (by decide +kernel) (va_cons (val_f 1 (val_var rfl) hpp' T.cP rfl rfl) va_nil) ⟨B, S', g', p.a, rfl, R', rel', hpa, hdep, fun hno H2 o2 => q1 ?_ H2 (o'.trans o2), fun g2 eg2 S2 H2 o2 R2 rel2 => ?_⟩))
          · rw [← et]
            show (Kp121.goes D.h (Tr D.h p.a) g').bind _ = none
            rw [hno]
            rfl
          · refine ⟨_, rfl, _, _, rfl, rfl, S2, g2, ?_, o'.trans o2, R2, rel2, ?_⟩
            · show [some (V.ref B.r), some (V.ref pa), some (V.int (((m + 1 : Nat) : Int) - 1))] = _
              rw [show ((m + 1 : Nat) : Int) - 1 = (m : Int) by omega]
            · rw [← et]
              show _ = (Kp121.goes D.h (Tr D.h p.a) g').bind _
              rw [eg2]
              rfl
        · have hb2 : 65536 < S'.steps ∧ cho (Tr D.h p.a) = false := by
            simp at hb
            exact ⟨by omega, hb.2⟩
          obtain ⟨g3, e3, l3, s3⟩ := notimes (h := D.h) hb2.2 (m + 1) g'
          exact q2 g3 (et.symm.trans e3) S' H' o' R' (rel'.skip hb2.1 l3 s3)
theorem ok_Run_run_next (M : MethAt K t.CR "run" "Run.run" s_Run_run) (T : Txt K mg t) (D : RD) (d kk : Nat) (hkk : 3 ≤ kk) (o_Run_choose : OkM P w K mg base (CX1 P w) 1 t.CR "choose" ["self", "last"] (sp_choose K t D)) (o_Run_matters : OkM P w K mg base CX0 1 t.CR "matters" ["self", "place"] (sp_matters K t D))
    (o_Run_run_step : OkM P w K mg base (CX1 P w) 3 t.CR "run_step" ["self", "step"] (sp_step K t D)) (o_Run_run : OkM P w K mg base (CX1 P w) kk t.CR "run" ["self", "place"] (sp_run K t D d)) (o_Run_run_loop : OkM P w K mg base (CX1 P w) (kk + 1) t.CR "run_loop" ["self", "loop"] (sp_loop K t D d)) :
    OkM P w K mg base (CX1 P w) (kk + 2) t.CR "run" ["self", "place"] (sp_run K t D (d + 1)) := by
  refine okM1_of T.cR.cl M sc_Run_run (fun _ _ _ _ _ _ us hl => match us, hl with | [_, _], _ => rfl) (fun vs H Q E h => ?_) (fun f cdv A outer s H vs Q E hr h => ?_)
  · obtain ⟨A, S, g, i, rfl, _⟩ := h
    rfl
  · obtain ⟨B, S, g, i, rfl, R, rel, hi, hdep, q1, q2⟩ := h
    obtain ⟨n, hn, hl, hp⟩ := R.run
    obtain ⟨f1, f2, f3, f4, f5, f6⟩ := R.fix.parts
    have hg : ∀ j p, j < D.ps.length → D.h.part[j]? = some p → canMeas j p := fun j p hj e => f2 j p (by rw [← f3 j hj]; exact e)
    have hw := R.fix.how
    obtain ⟨dh, ca, da, lp, eh, _, _, hP⟩ := hw
    have ep : D.ps[i]? = some D.ps[i] := List.getElem?_eq_getElem hi
    have eph : D.h.part[i]? = some D.ps[i] := (f3 i hi).trans ep
    obtain ⟨as, pa, el, hal, ea, hPart⟩ := hP.get ep
    have eh := hide_same B H _ _ eh
    have el := hide_same B H _ _ el
    generalize hpe : D.ps[i] = p at ep eph hPart
    have pAt : ∀ H', Out B H H' → PartAt t H' pa p := fun H' o => by
      have : PartAt t (hide B H') pa p := by rw [show hide B H' = hide B H from o]; exact hPart
      exact this.same (hide_same B H')
    obtain ⟨d0, hpp⟩ := pAt H (Out.refl B H)
    refine ⟨_, (pss_cons (ps_if (pt_not (pt_val (pe_m o_Run_matters (hr.mono (by omega)) pass0 (pv 0) (pa_cons (pv 1) pa_nil))))
        (pss_one ps_retN)
        pss_nil)
      (pss_cons (ps_set (i := 2) sc_Run_run.nd rfl (Or.inl rfl) (pe_ix ix_list (pe_fld (pe_fld (pv 0) rfl) rfl) (pv 1) (fun _ _ => rfl)))
      (pss_one (ps_if (pt_cmpR op_eq (pe_fld (pv 2) rfl) (pe_gl T.g_STEP) (nomark _))
        (pss_one (ps_expr (pe_m o_Run_run_step (hr.mono (by omega)) leaves_cx.passes (pv 0) (pa_cons (pv 2) pa_nil))))
        (pss_one (ps_if (pt_cmpR op_eq (pe_fld (pv 2) rfl) (pe_gl T.g_BEHIND) (nomark _))
          (pss_cons (ps_expr (pe_m o_Run_run (hr.mono (by omega)) leaves_cx.passes (pv 0) (pa_cons (pe_fld (pv 2) rfl) pa_nil)))
          (pss_one (ps_expr (pe_m o_Run_run (hr.mono (by omega)) leaves_cx.passes (pv 0) (pa_cons (pe_fld (pv 2) rfl) pa_nil)))))
          (pss_one (ps_if (pt_cmpR op_eq (pe_fld (pv 2) rfl) (pe_gl T.g_EITHER) (nomark _))
            (pss_one (ps_expr (pe_m o_Run_run (hr.mono (by omega)) leaves_cx.passes (pv 0) (pa_cons (pe_ifExp (pt_cmpR op_eq (pe_m o_Run_choose (hr.mono (by omega)) leaves_cx.passes (pv 0) (pa_cons pe_int pa_nil)) pe_int (nomark _)) (pe_fld (pv 2) rfl) (pe_fld (pv 2) rfl)) pa_nil))))
            (pss_one (ps_expr (pe_m o_Run_run_loop (hr.mono (by omega)) leaves_cx.passes (pv 0) (pa_cons (pv 2) pa_nil)))))))))))), ?_⟩
    refine rd_seq (rd_ifC (rd_notB (rd_meth (val_var rfl) hp (by decide +kernel) (va_cons (val_var rfl) va_nil) ⟨B, S, i, rfl, R, hi, _, rfl, ite2 (fun hb => ?_) (fun hb => ?_)⟩)))
    · have hb2 : 65536 < S.steps ∧ cho (Tr D.h i) = false := by
        simp at hb
        exact ⟨by omega, hb.2⟩
      obtain ⟨g3, e3, l3, s3⟩ := nochoice (h := D.h) _ hb2.2 g
      exact q2 g3 e3 S H (Out.refl B H) R (rel.skip hb2.1 l3 s3)
    · refine rd_next ?_
      refine rd_sset (val_ix (val_f 5 (val_f 0 (val_var rfl) hp T.cR rfl rfl) eh T.cH rfl rfl) (val_var rfl) (SqL.of el) (atI_nat ea)) ?_
      refine rd_if (vt_test (val_eqI (val_f 0 (val_var rfl) hpp T.cP rfl rfl) val_c)) (fun e0 => ?_) (fun e0 => ?_)
      · have e0 := nat_of_dec (b := 0) e0
        have eT : Tr D.h i = stepT p := tr_step eph e0
        rw [eT] at q1 q2
        refine rd_drop (rd_meth (E := E) (val_var rfl) hp (by decide +kernel) (va_cons (val_var rfl) va_nil) ⟨B, S, pa, p, rfl, R, hPart, fun hno H' o => q1 ?_ H' o, fun S' eS H' o R' => ?_⟩)
        · rcases rel.step (h := D.h) (a := p.a) (t := p.b) (x := if p.d < p.c then none else some (p.c, p.d)) with ⟨_, z⟩ | ⟨S', g', z, _, _⟩
          · exact z
          · have hno : Kp121.goes D.h (.step p.a p.b (if p.d < p.c then none else some (p.c, p.d))) S = none := hno
            rw [hno] at z
            cases z
        · have eS : Kp121.goes D.h (.step p.a p.b (if p.d < p.c then none else some (p.c, p.d))) S = some S' := eS
          rcases rel.step (h := D.h) (a := p.a) (t := p.b) (x := if p.d < p.c then none else some (p.c, p.d)) with ⟨z, _⟩ | ⟨S2, g2, z, zg, r2⟩
          · rw [eS] at z
            cases z
          · rw [eS] at z
            cases z
            exact q2 g2 zg S' H' o R' r2
      · have e0 := nat_of_ndec (b := 0) e0
        refine rd_if (vt_test (val_eqI (val_f 0 (val_var rfl) hpp T.cP rfl rfl) val_c)) (fun e1 => ?_) (fun e1 => ?_)
        · have e1 := nat_of_dec (b := 1) e1
          obtain ⟨la, lb, eT⟩ := tr_both hg hi eph e1
          rw [eT] at q1 q2
          obtain ⟨da1, db1⟩ := dep_two ep (.inl e1) la lb
          refine rd_seq (rd_drop (rd_meth (E := E) (val_var rfl) hp (by decide +kernel) (va_cons (val_f 1 (val_var rfl) hpp T.cP rfl rfl) va_nil) ⟨B, S, g, p.a, rfl, R, rel, by omega, by omega, fun hno H' o => q1 ?_ H' o, fun g2 eg2 S2 H2 o2 R2 rel2 => ?_⟩))
          · show (Kp121.goes D.h (Tr D.h p.a) g).bind _ = none
            rw [hno]
            rfl
          · obtain ⟨n2, hn2, hl2, hp2⟩ := R2.run
            obtain ⟨d2, hpp2⟩ := pAt H2 o2
            have eb : Kp121.goes D.h (.both (Tr D.h p.a) (Tr D.h p.b)) g = Kp121.goes D.h (Tr D.h p.b) g2 := by
              show (Kp121.goes D.h (Tr D.h p.a) g).bind _ = _
              rw [eg2]
              rfl
            exact rd_drop (rd_meth (E := E) (val_var rfl) hp2 (by decide +kernel) (va_cons (val_f 2 (val_var rfl) hpp2 T.cP rfl rfl) va_nil) ⟨B, S2, g2, p.b, rfl, R2, rel2, by omega, by omega, fun hno H' o => q1 (eb.trans hno) H' (o2.trans o), fun g3 eg3 S3 H3 o3 R3 rel3 => q2 g3 (eb.trans eg3) S3 H3 (o2.trans o3) R3 rel3⟩)
        · have e1 := nat_of_ndec (b := 1) e1
          refine rd_if (vt_test (val_eqI (val_f 0 (val_var rfl) hpp T.cP rfl rfl) val_c)) (fun e2 => ?_) (fun e2 => ?_)
          · have e2 := nat_of_dec (b := 2) e2
            obtain ⟨la, lb, eT⟩ := tr_either hg hi eph e2
            rw [eT] at q1 q2
            obtain ⟨da1, db1⟩ := dep_two ep (.inr e2) la lb
            refine rd_drop (rd_methC (E := E) (val_var rfl) hp (by decide +kernel) (rd_cons (rd_ifE (rd_test (rd_opC (rd_meth (E := E) (val_var rfl) hp (by decide +kernel) (va_cons val_c va_nil) ⟨B, S, 1, rfl, R, fun hw => q1 ?_ H (Out.refl B H), fun k r e hk H1 o1 R1 => ?_⟩))))))
            · show (match g.left_ with | [] => none | k :: r => if k = 0 then _ else if k = 1 then _ else none) = none
              rw [← rel.left]
              cases e : S.left_ with
              | nil => rfl
              | cons k r =>
                have := hw k r e
                show (if k = 0 then _ else if k = 1 then _ else none) = none
                rw [if_neg (by omega), if_neg (by omega)]
            · obtain ⟨n1, hn1, hl1, hp1⟩ := R1.run
              obtain ⟨d1, hpp1⟩ := pAt H1 o1
              have eg : Kp121.goes D.h (.either (Tr D.h p.a) (Tr D.h p.b)) g = (if k = 0 then Kp121.goes D.h (Tr D.h p.a) { g with left_ := r } else if k = 1 then Kp121.goes D.h (Tr D.h p.b) { g with left_ := r } else none) := by
                show (match g.left_ with | [] => none | k :: r => if k = 0 then Kp121.goes D.h (Tr D.h p.a) { g with left_ := r } else if k = 1 then Kp121.goes D.h (Tr D.h p.b) { g with left_ := r } else none) = _
                rw [← rel.left, e]
              refine val_c _ ⟨rfl, _, rfl, ?_⟩
              rw [dec_VI]
              refine ite2 (fun hz => ?_) (fun hz => ?_)
              · have hz := nat_of_dec (b := 0) hz
                rw [if_pos hz] at eg
                exact val_f 1 (val_var rfl) hpp1 T.cP rfl rfl _ ⟨B, _, { g with left_ := r }, p.a, rfl, R1, rel.take r, by omega, by omega, fun hno H' o => q1 (eg.trans hno) H' (o1.trans o), fun g3 eg3 S3 H3 o3 R3 rel3 => q2 g3 (eg.trans eg3) S3 H3 (o1.trans o3) R3 rel3⟩
              · have hz : ¬ k = 0 := fun z => hz (decide_eq_true (by omega))
                rw [if_neg hz, if_pos (by omega)] at eg
                exact val_f 2 (val_var rfl) hpp1 T.cP rfl rfl _ ⟨B, _, { g with left_ := r }, p.b, rfl, R1, rel.take r, by omega, by omega, fun hno H' o => q1 (eg.trans hno) H' (o1.trans o), fun g3 eg3 S3 H3 o3 R3 rel3 => q2 g3 (eg.trans eg3) S3 H3 (o1.trans o3) R3 rel3⟩
          · have e2 := nat_of_ndec (b := 2) e2
            have e3 : p.kind = 3 := by
              rcases f2 i p ep with z | z | z
              · exact absurd z e0
              · exact z.1
              · omega
            obtain ⟨la, eT⟩ := tr_again hg hi eph e3
            rw [eT] at q1 q2
            have da1 := dep_loop ep e3 la
            exact rd_drop (rd_meth (E := E) (val_var rfl) hp (by decide +kernel) (va_cons (val_var rfl) va_nil) ⟨B, S, g, pa, p, rfl, R, rel, hPart, by omega, by omega, q1, q2⟩)
/-- every part, by how deep it is -/
theorem ok_Run_run (M : MethAt K t.CR "run" "Run.run" s_Run_run) (ML : MethAt K t.CR "run_loop" "Run.run_loop" s_Run_run_loop) (T : Txt K mg t) (D : RD) (o_Run_choose : OkM P w K mg base (CX1 P w) 1 t.CR "choose" ["self", "last"] (sp_choose K t D)) (o_Run_matters : OkM P w K mg base CX0 1 t.CR "matters" ["self", "place"] (sp_matters K t D))
    (o_Run_run_step : OkM P w K mg base (CX1 P w) 3 t.CR "run_step" ["self", "step"] (sp_step K t D)) : ∀ d, OkM P w K mg base (CX1 P w) (3 + 2 * d) t.CR "run" ["self", "place"] (sp_run K t D d)
  | 0 => by
    have no : ∀ vs H Q E, ¬ sp_run K t D 0 vs H Q E := by
      rintro vs H Q E ⟨A, S, g, i, _, R, _, hi, hd, _⟩
      have := dep_pos (List.getElem?_eq_getElem hi)
      omega
    obtain ⟨f, fd, hm, F⟩ := M
    exact ⟨T.cR.cl, f, fd, hm, F.binds (fun _ _ _ _ _ _ us hl => match us, hl with | [_, _], _ => rfl), ⟨fun vs H Q E h => (no vs H Q E h).elim, fun A outer s H args us vs Q E _ _ _ _ h => (no vs H Q E h).elim⟩⟩
  | d + 1 => by
    have ih := ok_Run_run M ML T D o_Run_choose o_Run_matters o_Run_run_step d
    exact ok_Run_run_next M T D d (3 + 2 * d) (by omega) o_Run_choose o_Run_matters o_Run_run_step ih (ok_Run_run_loop ML T D d (3 + 2 * d) (by omega) o_Run_choose o_Run_matters ih)
end
end My
namespace My
open PySem PySem.Spec PyProof.Rows L2
open Kp121 (Part Going)
section
variable {ta tv : TE} {tr : TA} {D : Ends} {σ : L2.St} {H : Hp} {C : Addr} {sp : Sp} {E : XK} {Q : VK} {vs : List V} {f : Str} {K : PySem.W.Frag}
theorem rd_sst0 {u : TS} {p dx : Addr} {v : V} (hp : H p = some (.ins C dx [])) (c : Cls K C) (n : NoAttr K C f) (h1 : Val tv σ H v) (h2 : Val ta σ H (.ref p)) (q : u D σ (upd H p (.ins C dx [(f, v)]))) : tSeq (sFld K ta tv f) u D σ H := rd_st0 (D := { D with nx := u D }) hp c n h1 h2 q
theorem rd_sst {u : TS} {p dx : Addr} {fs : List (Str × V)} {v : V} (c : Cls K C) (n : NoAttr K C f) (hl : fs.length < 1000) (hf : f ∉ fs.map (·.1)) (h1 : Val tv σ (upd H p (.ins C dx fs)) v) (h2 : Val ta σ (upd H p (.ins C dx fs)) (.ref p)) (q : u D σ (upd H p (.ins C dx (fs ++ [(f, v)])))) :
    tSeq (sFld K ta tv f) u D σ (upd H p (.ins C dx fs)) := rd_st (D := { D with nx := u D }) c n hl hf h1 h2 q
theorem rd_sstV {u : TS} (h : tv σ H fun y H1 => ta σ H1 fun x H2 => ∃ a C dx fs, x = .ref a ∧ H2 a = some (.ins C dx fs) ∧ Cls K C ∧ NoAttr K C f ∧ fs.length < 1000 ∧ u D σ (upd H2 a (.ins C dx (putF f y fs)))) : tSeq (sFld K ta tv f) u D σ H := h
theorem rd_sdrop {u : TS} (h : ta σ H fun _ H1 => u D σ H1) : tSeq (tDrop ta) u D σ H := h
theorem rd_mk (h1 : ValA tr σ H vs) (h2 : ∀ x dx, H x = none → H dx = none → dx ≠ x → sp (.ref x :: vs) (upd (upd H dx (.own x)) x (.ins C dx [])) (fun v H2 => v = .non ∧ Q (.ref x) H2) E) : tMake C sp [] E tr σ H Q :=
  h1 _ fun x dx a b c => by rw [List.append_nil]; exact h2 x dx a b c
theorem rd_callS (h1 : ValA tr σ H vs) (h2 : sp vs H Q E) : tCall sp [] E tr σ H Q := h1 _ (by rw [List.append_nil]; exact h2)
end
theorem HowAt.same {t : Adr} {H H' : Hp} {a : Addr} {code data : Kp120.Kind} {cm dm no : Nat} {ps : List Part} (h : HowAt t H a code data cm dm no ps) (s : Same H H') : HowAt t H' a code data cm dm no ps := by
  obtain ⟨dx, ca, da, l, e, h1, h2, h3⟩ := h
  exact ⟨dx, ca, da, l, s _ _ e, h1.same s, h2.same s, ListAt.same (fun a x z => z.same s) h3 s⟩
section
variable {K : PySem.W.Frag} {t : Adr}
theorem made_held {G H' : Hp} {x dx ka ha : Addr} {k : Kp120.Kind} {las : List Addr} (m : MadeHeld t (upd (upd G dx (.own x)) x (.ins t.CHe dx [])) H' x dx ka k ha las) (nx : G x = none) (nd : G dx = none) (hk : KindAt t G ka k) :
    Same G H' ∧ HeldAt t H' x dx ka ha k las ∧ G ha = none ∧ ∀ a ∈ las, G a = none ∧ H' a = some (.lst []) := by
  have s : Same G H' := fun b o e => m.same b o (ne_of_none e nx) (by rw [upd_ne (ne_of_none e nx), upd_ne (ne_of_none e nd)]; exact e)
  have no : ∀ b, upd (upd G dx (.own x)) x (.ins t.CHe dx []) b = none → G b = none := fun b e => by
    have h1 : b ≠ x := fun z => by rw [z, upd_same] at e; cases e
    rw [upd_ne h1] at e
    have h2 : b ≠ dx := fun z => by rw [z, upd_same] at e; cases e
    rw [upd_ne h2] at e
    exact e
  exact ⟨s, ⟨m.obj, hk.same s, m.sets⟩, no _ m.nha, fun a ha => ⟨no a (m.new a ha).1, (m.new a ha).2⟩⟩
theorem ne_lst {H : Hp} {a b : Addr} {las : List Addr} (h : H a = some (.lst (las.map V.ref))) (h' : H b = some (.lst [])) (n : 1 ≤ las.length) : a ≠ b := ne_of h h' fun z => by
  have z2 : las.map V.ref = [] := by injection z
  have := congrArg List.length z2
  rw [List.length_map] at this
  simp at this
  rw [this] at n
  simp at n
theorem run_made {D : RD} {A : RA} {G0 G5 H6 H8 : Hp} {o7 : HO} (s5 : Same G0 G5) (n0 : G0 A.r = none) (e5 : ∃ fs, G5 A.r = some (.ins t.CR A.dx fs)) (hcho : G5 A.cho = some (.lst ((choL D.ps).map V.bl))) (how : HowAt t G0 A.how D.code D.data D.cm D.dm D.no D.ps) (choice : SqL K G0 A.choice (nV D.l))
    (kc : KindAt t G0 A.kc D.code) (kd : KindAt t G0 A.kd D.data) (s6 : Same G5 H6) (h6 : HeldAt t H6 A.co A.dco A.kc A.hc D.code A.lc) (nco : G5 A.co = none) (nhc : G5 A.hc = none) (nlc : ∀ a ∈ A.lc, G5 a = none ∧ H6 a = some (.lst [])) (ndc : A.lc.Nodup) (lenc : A.lc.length = D.code.sets)
    (s8 : Same (upd H6 A.r o7) H8) (h8 : HeldAt t H8 A.da A.dda A.kd A.hd D.data A.ld) (nda : upd H6 A.r o7 A.da = none) (nhd : upd H6 A.r o7 A.hd = none) (nld : ∀ a ∈ A.ld, upd H6 A.r o7 a = none ∧ H8 a = some (.lst [])) (ndd : A.ld.Nodup) (lend : A.ld.length = D.data.sets)
    (ok : okHow D.code D.data D.cm D.dm D.no D.ps = true) : RunAt K t D A (upd H8 A.r (.ins t.CR A.dx (runN.zip (runF A 0 ⟨D.l, Kp121.empty, 0, 0⟩)))) ⟨D.l, Kp121.empty, 0, 0⟩ ∧ Same G0 (hide A (upd H8 A.r (.ins t.CR A.dx (runN.zip (runF A 0 ⟨D.l, Kp121.empty, 0, 0⟩))))) := by
  obtain ⟨fs, e5⟩ := e5
  obtain ⟨_, _, _, gk1, gk2⟩ := okParts_of ok
  have gc := gk_of gk1
  have gd := gk_of gk2
  -- what is in G5 stays to the end
  have to7 : ∀ b o, b ≠ A.r → H6 b = some o → upd H6 A.r o7 b = some o := fun b o nb e => by rw [upd_ne nb]; exact e
  have nlcr : A.r ∉ A.lc := fun z => by rw [(nlc _ z).1] at e5; cases e5
  have nldr : A.r ∉ A.ld := fun z => by have := (nld _ z).1; rw [upd_same] at this; cases this
  have fin8 : ∀ b o, b ≠ A.r → b ∉ A.lc → b ∉ A.ld → H8 b = some o → hide A (upd H8 A.r (.ins t.CR A.dx (runN.zip (runF A 0 ⟨D.l, Kp121.empty, 0, 0⟩)))) b = some o := fun b o h1 h2 h3 e => hide_get h1 h2 h3 (by rw [upd_ne h1]; exact e)
  have nld7 : ∀ b o, b ≠ A.r → H6 b = some o → b ∉ A.ld := fun b o nb e z => by
    have := (nld b z).1
    rw [to7 b o nb e] at this
    cases this
  have fin5 : ∀ b o, b ≠ A.r → G5 b = some o → hide A (upd H8 A.r (.ins t.CR A.dx (runN.zip (runF A 0 ⟨D.l, Kp121.empty, 0, 0⟩)))) b = some o := fun b o nb e =>
    fin8 b o nb (fun z => by rw [(nlc b z).1] at e; cases e) (nld7 b o nb (s6 _ _ e)) (s8 _ _ (to7 b o nb (s6 _ _ e)))
  have sG : Same G0 (hide A (upd H8 A.r (.ins t.CR A.dx (runN.zip (runF A 0 ⟨D.l, Kp121.empty, 0, 0⟩))))) := fun b o e => fin5 b o (ne_of_none e n0) (s5 b o e)
  have ncor : A.co ≠ A.r := fun z => by rw [z, e5] at nco; cases nco
  have nhcr : A.hc ≠ A.r := fun z => by rw [z, e5] at nhc; cases nhc
  have ndar : A.da ≠ A.r := fun z => by rw [z, upd_same] at nda; cases nda
  have nhdr : A.hd ≠ A.r := fun z => by rw [z, upd_same] at nhd; cases nhd
  have lc8 : ∀ a ∈ A.lc, H8 a = some (.lst []) := fun a ha => s8 _ _ (to7 a _ (fun z => nlcr (z ▸ ha)) (nlc a ha).2)
  have ncho : A.cho ≠ A.r := ne_of hcho e5 (by intro z; cases z)
  refine ⟨⟨⟨how.same sG, fin5 _ _ ncho hcho, sG.seq choice, ⟨?_, kc.same sG, ?_⟩, ⟨?_, kd.same sG, ?_⟩, lenc, lend, ?_, ⟨nlcr, nldr⟩, ok⟩, ⟨0, Nat.zero_le _, rfl, upd_same⟩, ?_, ?_, cacheOk_nil _, cacheOk_nil _⟩, sG⟩
  · exact fin8 _ _ ncor (fun z => absurd rfl (ne_of h6.obj (nlc _ z).2 (by intro z; cases z))) (nld7 _ _ ncor h6.obj) (s8 _ _ (to7 _ _ ncor h6.obj))
  · exact fin8 _ _ nhcr (fun z => absurd rfl (ne_lst h6.sets (nlc _ z).2 (by omega))) (nld7 _ _ nhcr h6.sets) (s8 _ _ (to7 _ _ nhcr h6.sets))
  · exact fin8 _ _ ndar (fun z => absurd rfl (ne_of h8.obj (lc8 _ z) (by intro z; cases z))) (fun z => absurd rfl (ne_of h8.obj (nld _ z).2 (by intro z; cases z))) h8.obj
  · exact fin8 _ _ nhdr (fun z => absurd rfl (ne_lst h8.sets (lc8 _ z) (by omega))) (fun z => absurd rfl (ne_lst h8.sets (nld _ z).2 (by omega))) h8.sets
  · refine List.nodup_append.mpr ⟨ndc, ndd, fun a ha b hb z => ?_⟩
    subst z
    exact nld7 a _ (fun z => nlcr (z ▸ ha)) (nlc a ha).2 hb
  · intro i a x h1 h2
    have ha := List.mem_of_getElem? h1
    rw [upd_ne (ne_mem ha nlcr), lc8 a ha]
    have h2 : (setsL D.code [])[i]? = some x := h2
    rw [setsL_nil, List.getElem?_replicate] at h2
    split at h2
    · cases h2; rfl
    · cases h2
  · intro i a x h1 h2
    have ha := List.mem_of_getElem? h1
    rw [upd_ne (ne_mem ha nldr), (nld a ha).2]
    have h2 : (setsL D.data [])[i]? = some x := h2
    rw [setsL_nil, List.getElem?_replicate] at h2
    split at h2
    · cases h2; rfl
    · cases h2
end
section
variable {P : Program} {w : World} {K : PySem.W.Frag} {mg : Str → Option Value} {base : Heap} {t : Adr}
abbrev fl3 (ha ca : Addr) : List (Str × V) := [(("how" : Str), V.ref ha)] ++ [(("choice" : Str), V.ref ca)] ++ [(("taken" : Str), V.int 0)]
abbrev fl6 (ha ca cl : Addr) : List (Str × V) := [(("how" : Str), V.ref ha)] ++ [(("choice" : Str), V.ref ca)] ++ [(("taken" : Str), V.int 0)] ++ [(("choosing" : Str), V.ref cl)] ++ [(("made" : Str), V.int 0)] ++ [(("long" : Str), V.int 0)]
abbrev fl7 (ha ca cl co : Addr) : List (Str × V) := [(("how" : Str), V.ref ha)] ++ [(("choice" : Str), V.ref ca)] ++ [(("taken" : Str), V.int 0)] ++ [(("choosing" : Str), V.ref cl)] ++ [(("made" : Str), V.int 0)] ++ [(("long" : Str), V.int 0)] ++ [(("code" : Str), V.ref co)]
def sp_Run (K : PySem.W.Frag) (t : Adr) (D : RD) : Sp := fun vs H Q _ => ∃ p dx ha ca G0, vs = [.ref p, .ref ha, .ref ca] ∧ H p = some (.ins t.CR dx []) ∧ Same G0 H ∧ G0 p = none ∧ HowAt t G0 ha D.code D.data D.cm D.dm D.no D.ps ∧ SqL K G0 ca (nV D.l) ∧ okHow D.code D.data D.cm D.dm D.no D.ps = true ∧
  ∀ H' A, A.r = p → Same G0 (hide A H') → RunAt K t D A H' ⟨D.l, Kp121.empty, 0, 0⟩ → Q .non H'
theorem ok_Run (h : ClsAt K mg "Run" "Run.__init__" s_Run t.CR runN) (T : Txt K mg t) (D : RD) (o_which_choose : Ok P w K mg base 3 "which_choose" ["parts"] (spN (R_which_choose t))) (o_Held : OkI P w K mg base 1 "Held" t.CHe ["self", "kind"] (sp_Held t)) :
    OkI P w K mg base 4 "Run" t.CR ["self", "how", "choice"] (sp_Run K t D) := by
  refine okI_of h sc_Run (fun _ _ _ _ _ _ us hl => match us, hl with | [_, _, _], _ => rfl) (fun vs H Q E h => ?_) (fun f cdv A outer s H vs Q E hr h => ?_)
  · obtain ⟨p, dx, ha, ca, G0, rfl, _⟩ := h
    rfl
  · obtain ⟨p, dx, ha, ca, G0, rfl, hp, s0, n0, hH, hS, ok, q⟩ := h
    obtain ⟨okl, okg, _, gk1, gk2⟩ := okParts_of ok
    have gc := gk_of gk1
    have gd := gk_of gk2
    have na : ∀ (i : Nat) (f : Str), runN[i]? = some f → NoAttr K t.CR f := fun i f e => T.cR.na f (List.mem_of_getElem? e)
    have hHow := hH
    obtain ⟨dh, kc, kd, lp, eh, hkc, hkd, hP⟩ := hHow
    refine ⟨_, (pss_cons (ps_fld (pv 0) (pv 1) rfl)
      (pss_cons (ps_fld (pv 0) (pv 2) rfl)
      (pss_cons (ps_fld (pv 0) pe_int rfl)
      (pss_cons (ps_fld (pv 0) (pe_fn o_which_choose (hr.mono (by omega)) (pa_cons (pe_fld (pv 1) rfl) pa_nil)) rfl)
      (pss_cons (ps_fld (pv 0) pe_int rfl)
      (pss_cons (ps_fld (pv 0) pe_int rfl)
      (pss_cons (ps_fld (pv 0) (pe_mk o_Held (hr.mono (by omega)) (pa_cons (pe_fld (pv 1) rfl) pa_nil)) rfl)
      (pss_one (ps_fld (pv 0) (pe_mk o_Held (hr.mono (by omega)) (pa_cons (pe_fld (pv 1) rfl) pa_nil)) rfl))))))))), ?_⟩
    refine rd_sst0 hp T.cR.cl (na 0 "how" rfl) (val_var rfl) (val_var rfl) ?_
    refine rd_sst T.cR.cl (na 1 "choice" rfl) (by show 1 < 1000; decide) (by show ("choice" : Str) ∉ (["how"] : List Str); decide +kernel) (val_var rfl) (val_var rfl) ?_
    refine rd_sst T.cR.cl (na 2 "taken" rfl) (by show 2 < 1000; decide) (by show ("taken" : Str) ∉ (["how", "choice"] : List Str); decide +kernel) val_c (val_var rfl) ?_
    have s3 : Same G0 (upd H p (.ins t.CR dx (fl3 ha ca))) := Same.upd_old s0 n0
    have hp3 : upd H p (.ins t.CR dx (fl3 ha ca)) p = some (.ins t.CR dx (fl3 ha ca)) := upd_same
    refine rd_sstV (rd_call (va_cons (val_f 5 (val_var rfl) (s3 _ _ eh) T.cH rfl rfl) va_nil) ⟨lp, D.ps, rfl, ListAt.same (fun a x z => z.same s3) hP s3, okl.2, fun i p e => canMeas_of (okg i p e), rfl⟩ ?_)
    rintro v H4 s4 ⟨cl, rfl, ncl, ecl⟩
    have nclp : cl ≠ p := fun z => by rw [z, hp3] at ncl; cases ncl
    refine val_var (v := .ref p) rfl _ ⟨p, t.CR, dx, _, rfl, s4 _ _ hp3, T.cR.cl, na 3 "choosing" rfl, by show 3 < 1000; decide, ?_⟩
    rw [putF_new "choosing" _ _ (by show ("choosing" : Str) ∉ (["how", "choice", "taken"] : List Str); decide +kernel)]
    refine rd_sst T.cR.cl (na 4 "made" rfl) (by show 4 < 1000; decide) (by show ("made" : Str) ∉ (["how", "choice", "taken", "choosing"] : List Str); decide +kernel) val_c (val_var rfl) ?_
    refine rd_sst T.cR.cl (na 5 "long" rfl) (by show 5 < 1000; decide) (by show ("long" : Str) ∉ (["how", "choice", "taken", "choosing", "made"] : List Str); decide +kernel) val_c (val_var rfl) ?_
    have s5 := Same.upd_old (l := p) (o := .ins t.CR dx (fl6 ha ca cl)) (s3.trans s4) n0
    have ecl5 : upd H4 p (.ins t.CR dx (fl6 ha ca cl)) cl = some (.lst ((choL D.ps).map V.bl)) := by rw [upd_ne nclp]; exact ecl
    have hp5 : upd H4 p (.ins t.CR dx (fl6 ha ca cl)) p = some (.ins t.CR dx (fl6 ha ca cl)) := upd_same
    generalize upd H4 p (.ins t.CR dx (fl6 ha ca cl)) = G5 at s5 ecl5 hp5 ⊢
    refine rd_sstV (rd_mk (va_cons (val_f 0 (val_var rfl) (s5 _ _ eh) T.cH rfl rfl) va_nil) fun co dco nco ndco neco => ⟨co, dco, kc, D.code, rfl, upd_same, ?_, gc.2.1, fun H6 hc lc m6 => ⟨rfl, ?_⟩⟩)
    · obtain ⟨dk, e⟩ := hkc.same s5
      exact ⟨dk, by rw [upd_ne (ne_of_none e nco), upd_ne (ne_of_none e ndco)]; exact e⟩
    · obtain ⟨s6, h6, nhc, nlc⟩ := made_held m6 nco ndco (hkc.same s5)
      refine val_var (v := .ref p) rfl _ ⟨p, t.CR, dx, _, rfl, s6 _ _ hp5, T.cR.cl, na 6 "code" rfl, by show 6 < 1000; decide, ?_⟩
      rw [putF_new "code" _ _ (by show ("code" : Str) ∉ (["how", "choice", "taken", "choosing", "made", "long"] : List Str); decide +kernel)]
      have s7 := Same.upd_old (l := p) (o := .ins t.CR dx (fl7 ha ca cl co)) (s5.trans s6) n0
      refine rd_stV (rd_mk (va_cons (val_f 1 (val_var rfl) (s7 _ _ eh) T.cH rfl rfl) va_nil) fun da dda nda ndda neda => ⟨da, dda, kd, D.data, rfl, upd_same, ?_, gd.2.1, fun H8 hd ld m8 => ⟨rfl, ?_⟩⟩)
      · obtain ⟨dk, e⟩ := hkd.same s7
        exact ⟨dk, by rw [upd_ne (ne_of_none e nda), upd_ne (ne_of_none e ndda)]; exact e⟩
      · obtain ⟨s8, h8, nhd, nld⟩ := made_held m8 nda ndda (hkd.same s7)
        refine val_var (v := .ref p) rfl _ ⟨p, t.CR, dx, _, rfl, s8 _ _ upd_same, T.cR.cl, na 7 "data" rfl, by show 7 < 1000; decide, ?_⟩
        rw [putF_new "data" _ _ (by show ("data" : Str) ∉ (["how", "choice", "taken", "choosing", "made", "long", "code"] : List Str); decide +kernel)]
        obtain ⟨R, sG⟩ := run_made (K := K) (t := t) (D := D) (A := ⟨p, dx, ha, ca, cl, co, da, dco, dda, kc, kd, hc, hd, lc, ld⟩) s5 n0 ⟨_, hp5⟩ ecl5 hH hS hkc hkd s6 h6 nco nhc nlc m6.nd m6.len s8 h8 nda nhd nld m8.nd m8.len ok
        exact q _ ⟨p, dx, ha, ca, cl, co, da, dco, dda, kc, kd, hc, hd, lc, ld⟩ rfl sG R
/-! ### how long a run takes -/
def sp_long (K : PySem.W.Frag) (t : Adr) : Sp := fun vs H Q E => ∃ D : RD, ∃ ha ca, vs = [.ref ha, .ref ca] ∧ HowAt t H ha D.code D.data D.cm D.dm D.no D.ps ∧ SqL K H ca (nV D.l) ∧ okHow D.code D.data D.cm D.dm D.no D.ps = true ∧
  (match Kp121.goes D.h (Tr D.h (D.ps.length - 1)) ⟨D.l, Kp121.empty, 0, 0⟩ with
    | none => ∀ H', E (.ref t.CW) none H'
    | some g => if g.left_ ≠ [] then ∀ H', E (.ref t.CW) none H' else if 65536 < g.steps then ∀ H', E (.ref t.CT) none H' else ∀ H', Q (.int (g.time : Int)) H')
theorem ok_long_of_run (Dl : DefAt K mg "long_of_run" s_long_of_run) (T : Txt K mg t) (o_RunA : ∀ D, OkI P w K mg base 4 "Run" t.CR ["self", "how", "choice"] (sp_Run K t D)) (o_runA : ∀ D, OkM P w K mg base (CX1 P w) 67 t.CR "run" ["self", "place"] (sp_run K t D 32)) : Ok1 P w K mg base 68 "long_of_run" ["how", "choice"] (sp_long K t) := by
  refine ok1_of Dl sc_long_of_run (fun _ _ _ _ _ _ us hl => match us, hl with | [_, _], _ => rfl) (fun vs H Q E h => ?_) (fun f cdv A outer s H vs Q E hr h => ?_)
  · obtain ⟨D, ha, ca, rfl, _⟩ := h
    rfl
  · obtain ⟨D, ha, ca, rfl, hH, hS, ok, q⟩ := h
    have o_Run := o_RunA D
    have o_Run_run := o_runA D
    refine ⟨_, (pss_cons (ps_set (i := 2) sc_long_of_run.nd rfl (Or.inl rfl) (pe_mk o_Run (hr.mono (by omega)) (pa_cons (pv 0) (pa_cons (pv 1) pa_nil))))
      (pss_cons (ps_expr (pe_m o_Run_run (hr.mono (by omega)) leaves_cx.passes (pv 2) (pa_cons (pe_op op_sub (pe_callB call_len_seq (by rfl) T.b_len PySem.boot_len (pa_cons (pe_fld (pv 0) rfl) pa_nil)) pe_int) pa_nil)))
      (pss_cons (ps_if (pt_cmpR op_lt (pe_fld (pv 2) rfl) (pe_callB call_len_seq (by rfl) T.b_len PySem.boot_len (pa_cons (pv 1) pa_nil)) (nomark _))
        (pss_one (ps_raise0 leaves_cx T.x_WrongChoices T.m_WrongChoices))
        pss_nil)
      (pss_cons (ps_if (pt_cmpR op_gt (pe_fld (pv 2) rfl) (pe_gl T.g_MOST_MADE) (nomark _))
        (pss_one (ps_raise0 leaves_cx T.x_TooManySteps T.m_TooManySteps))
        pss_nil)
      (pss_one (ps_ret (pe_fld (pv 2) rfl))))))), ?_⟩
    refine rd_ssetC (rd_mk (va_cons (val_var rfl) (va_cons (val_var rfl) va_nil)) fun x dx nx nd ne => ⟨x, dx, ha, ca, H, rfl, upd_same, ?_, nx, hH, hS, ok, fun H1 B eB sB R => ⟨rfl, ?_⟩⟩)
    · intro b o e
      rw [upd_ne (ne_of_none e nx), upd_ne (ne_of_none e nd)]
      exact e
    · subst eB
      obtain ⟨n, hn, hl, hp⟩ := R.run
      obtain ⟨f1, f2, f3, f4, f5, f6⟩ := R.fix.parts
      have s1 : ∀ H', Out B H1 H' → Same H H' := fun H' o b u e => hide_same B H' _ _ (by rw [show hide B H' = hide B H1 from o]; exact sB b u e)
      have hw := hH.same (s1 H1 (Out.refl B H1))
      obtain ⟨dh, kc, kd, lp, eh, _, _, hP⟩ := hw
      obtain ⟨as, el, hal, _⟩ := hP
      have hlen : V.int ((((as.map V.ref).length : Nat) : Int) - 1) = V.int (((D.ps.length - 1 : Nat)) : Int) := by
        rw [List.length_map, hal]
        congr 1
        omega
      refine rd_sdrop (rd_meth (E := E) (val_var rfl) hp (by decide +kernel) (va_cons (val_eq (val_I0 (val_cb (va_cons (val_f 5 (val_var rfl) eh T.cH rfl rfl) va_nil) fun Q q => ⟨lp, _, rfl, .inl (SqL.of el), q⟩) val_c) hlen) va_nil) ⟨B, _, _, D.ps.length - 1, rfl, R, Rel.refl _, by omega, f4, fun hno H' o => ?_, fun g eg S' H' o R' rel => ?_⟩)
      · rw [hno] at q
        exact q H'
      · rw [eg] at q
        obtain ⟨n', hn', hl', hp'⟩ := R'.run
        have hS' := (s1 H' o).seq hS
        have hle : n' < D.l.length ↔ g.left_ ≠ [] := by
          rw [← rel.left, hl']
          constructor
          · intro z z2
            have := List.drop_eq_nil_iff.mp z2
            omega
          · intro z
            by_cases z2 : n' < D.l.length
            · exact z2
            · exact absurd (List.drop_eq_nil_of_le (by omega)) z
        refine rd_ifN (vt_test (val_I0 (val_f 2 (val_var rfl) hp' T.cR rfl rfl) (val_cb (va_cons (val_var rfl) va_nil) fun Q q => ⟨_, _, rfl, .inl hS', q⟩))) (fun z => ?_) (fun z => ?_)
        · rw [nV_len] at z
          have z := of_decide_eq_true z
          have q : if g.left_ ≠ [] then ∀ H', E (.ref t.CW) none H' else _ := q
          rw [if_pos (hle.mp (by omega))] at q
          exact q H'
        · rw [nV_len] at z
          have z := of_decide_eq_false z
          have q : if g.left_ ≠ [] then ∀ H', E (.ref t.CW) none H' else _ := q
          rw [if_neg (fun y => absurd (hle.mpr y) (by omega))] at q
          refine rd_ifN (vt_test (val_I0 (val_f 4 (val_var rfl) hp' T.cR rfl rfl) val_c)) (fun z2 => ?_) (fun z2 => ?_)
          · have z2 : (65536 : Int) < (S'.steps : Int) := of_decide_eq_true z2
            have hm : 65536 < g.steps := by
              by_cases y : g.steps ≤ 65536
              · rw [rel.same y] at z2
                omega
              · omega
            rw [if_pos hm] at q
            exact q H'
          · have z2 : ¬ (65536 : Int) < (S'.steps : Int) := of_decide_eq_false z2
            have hm : ¬ 65536 < g.steps := fun y => z2 (by have := rel.many y; omega)
            rw [if_neg hm] at q
            have eS := rel.same (by omega)
            subst eS
            exact rd_ret (val_f 5 (val_var rfl) hp' T.cR rfl rfl) (q H')
theorem runAns_none {code data : Kp120.Kind} {cm dm no : Nat} {ps : List Part} {l : List Nat} (hb : okHow code data cm dm no ps = true) (e : Kp121.goes (howOf code data cm dm no ps) (Tr (howOf code data cm dm no ps) (ps.length - 1)) ⟨l, Kp121.empty, 0, 0⟩ = none) : runAns code data cm dm no ps l = -2 := by
  unfold runAns
  rw [if_pos hb, e]
theorem runAns_some {code data : Kp120.Kind} {cm dm no : Nat} {ps : List Part} {l : List Nat} {g : Going} (hb : okHow code data cm dm no ps = true) (e : Kp121.goes (howOf code data cm dm no ps) (Tr (howOf code data cm dm no ps) (ps.length - 1)) ⟨l, Kp121.empty, 0, 0⟩ = some g) :
    runAns code data cm dm no ps l = if g.left_ ≠ [] then (-2 : Int) else if 65536 < g.steps then (-28 : Int) else ((g.time : Nat) : Int) := by
  unfold runAns
  rw [if_pos hb, e]
def sp_tt (K : PySem.W.Frag) : Sp := fun vs H Q _ => ∃ (a0 a1 a2 a3 b0 b1 b2 b3 m n o : Nat) (l lq : Addr) (ns : List Int) (c : Nat) (qs : List Nat),
  vs = [.int a0, .int a1, .int a2, .int a3, .int b0, .int b1, .int b2, .int b3, .int m, .int n, .int o, .ref l, .ref lq] ∧ SqL K H l (ns.map V.int) ∧ ns.length = 5 * c ∧ c ≤ 80 ∧ (∀ x ∈ ns, 0 ≤ x) ∧ SqL K H lq (nV qs) ∧
  ∀ p H', H' p = some (.lst [.int 0, .int (runAns ⟨a0, a1, a2, a3⟩ ⟨b0, b1, b2, b3⟩ m n o (partsOf ns) qs)]) → Q (.ref p) H'
theorem ok_tt_run (D : DefAt K mg "tt_run" s_tt_run) (T : Txt K mg t) (o_read_how : Ok P w K mg base 4 "read_how" ["code", "data", "code_miss", "data_miss", "none", "part"] (spN (R_read_how K t)))
    (o_how_is_right : Ok P w K mg base 6 "how_is_right" ["how"] (spN (R_how_is_right t))) (o_long_of_run : Ok1 P w K mg base 68 "long_of_run" ["how", "choice"] (sp_long K t)) : Ok P w K mg base 69 "tt_run" ["codeLine", "codeSets", "codeWays", "codeNone", "dataLine", "dataSets", "dataWays", "dataNone", "codeMiss", "dataMiss", "none", "part", "choice"] (sp_tt K) := by
  refine ok_of D sc_tt_run (fun _ _ _ _ _ _ us hl => match us, hl with | [_, _, _, _, _, _, _, _, _, _, _, _, _], _ => rfl) (fun vs H Q E h => ?_) (fun f cdv A outer s H vs Q E hr h => ?_)
  · obtain ⟨a0, a1, a2, a3, b0, b1, b2, b3, m, n, o, l, lq, ns, c, qs, rfl, _⟩ := h
    rfl
  · obtain ⟨a0, a1, a2, a3, b0, b1, b2, b3, m, n, o, l, lq, ns, c, qs, rfl, hS, hn, hc, h0, hq, q⟩ := h
    let Ex : XK := fun cls _ _ => (cls = .ref t.CW ∧ runAns ⟨a0, a1, a2, a3⟩ ⟨b0, b1, b2, b3⟩ m n o (partsOf ns) qs = -2) ∨ (cls = .ref t.CT ∧ runAns ⟨a0, a1, a2, a3⟩ ⟨b0, b1, b2, b3⟩ m n o (partsOf ns) qs = -28)
    refine ⟨_, (pss_cons (ps_set (i := 13) sc_tt_run.nd rfl (Or.inl rfl) (pe_fn o_read_how (hr.mono (by omega)) (pa_cons (pe_lst (pa_cons (pv 0) (pa_cons (pv 1) (pa_cons (pv 2) (pa_cons (pv 3) pa_nil))))) (pa_cons (pe_lst (pa_cons (pv 4) (pa_cons (pv 5) (pa_cons (pv 6) (pa_cons (pv 7) pa_nil))))) (pa_cons (pv 8) (pa_cons (pv 9) (pa_cons (pv 10) (pa_cons (pv 11) pa_nil))))))))
      (pss_cons (ps_if (pt_not (pt_val (pe_fn o_how_is_right (hr.mono (by omega)) (pa_cons (pv 13) pa_nil))))
        (pss_one (ps_ret (pe_lst (pa_cons pe_int (pa_cons (pe_gl T.g_NOT_RIGHT) pa_nil)))))
        pss_nil)
      (pss_one (ps_try2 (E := Ex) rfl rfl rfl T.m_WrongChoices T.m_TooManySteps T.n11 T.n21 T.n22
        (fun pins F px => (pss_one (ps_ret (pe_lst (pa_cons pe_int (pa_cons (pe_fn1 o_long_of_run (hr.mono (by omega)) px (pa_cons (pv 13) (pa_cons (pv 12) pa_nil))) pa_nil))))))
        (fun a => (pss_one (ps_ret (pe_lst (pa_cons pe_int (pa_cons (pe_gl T.g_WRONG_CHOICES) pa_nil))))))
        (fun a => (pss_one (ps_ret (pe_lst (pa_cons pe_int (pa_cons (pe_gl T.g_TOO_MANY_STEPS) pa_nil)))))))))), ?_⟩
    refine rd_ssetC ?_
    refine rd_two (va_cons (val_var rfl) (va_cons (val_var rfl) (va_cons (val_var rfl) (va_cons (val_var rfl) va_nil)))) (by show 4 ≤ sizeLine; decide) (fun _ _ => va_cons (val_var rfl) (va_cons (val_var rfl) (va_cons (val_var rfl) (va_cons (val_var rfl) va_nil)))) (by show 4 ≤ sizeLine; decide) fun la lb na s1 ela => ?_
    refine rd_consV (val_var rfl) (rd_consV (val_var rfl) (rd_consV (val_var rfl) (rd_consV (val_var rfl) ?_)))
    refine ⟨_, ⟨a0, a1, a2, a3, b0, b1, b2, b3, m, n, o, la, lb, l, ns, c, rfl, SqL.of ela, SqL.of upd_same, s1.seq hS, hn, hc, h0, rfl⟩, ?_⟩
    rintro v H4 s4 ⟨xh, rfl, hH⟩
    refine rd_seq (rd_ifC (rd_notB (rd_call (va_cons (val_var rfl) va_nil) ⟨xh, _, _, _, _, _, _, rfl, hH, rfl⟩ ?_)))
    rintro v H5 s5 rfl
    refine ⟨_, rfl, ite2 (fun hb => ?_) (fun hb => ?_)⟩
    · have hb : ¬ okHow ⟨a0, a1, a2, a3⟩ ⟨b0, b1, b2, b3⟩ m n o (partsOf ns) = true := by simpa using hb
      refine rd_retC (rd_lst (rd_consV val_c (rd_consV val_c ⟨by show 2 ≤ sizeLine; decide, fun p hp => q p _ ?_⟩)))
      rw [upd_same]
      unfold runAns
      rw [if_neg hb]
    · have hb : okHow ⟨a0, a1, a2, a3⟩ ⟨b0, b1, b2, b3⟩ m n o (partsOf ns) = true := by simpa using hb
      refine rd_next ⟨?_, ?_⟩
      · refine rd_retC (rd_lst (rd_consV val_c (rd_cons (rd_callS (va_cons (val_var rfl) (va_cons (val_var rfl) va_nil)) ⟨⟨⟨a0, a1, a2, a3⟩, ⟨b0, b1, b2, b3⟩, m, n, o, partsOf ns, qs⟩, xh, lq, rfl, hH.same s5, ((s1.trans s4).trans s5).seq hq, hb, ?_⟩))))
        show (match Kp121.goes (howOf ⟨a0, a1, a2, a3⟩ ⟨b0, b1, b2, b3⟩ m n o (partsOf ns)) (Tr (howOf ⟨a0, a1, a2, a3⟩ ⟨b0, b1, b2, b3⟩ m n o (partsOf ns)) ((partsOf ns).length - 1)) ⟨qs, Kp121.empty, 0, 0⟩ with
          | none => ∀ H', Ex (.ref t.CW) none H'
          | some g => if g.left_ ≠ [] then ∀ H', Ex (.ref t.CW) none H' else if 65536 < g.steps then ∀ H', Ex (.ref t.CT) none H' else ∀ H', _)
        cases eg : Kp121.goes (howOf ⟨a0, a1, a2, a3⟩ ⟨b0, b1, b2, b3⟩ m n o (partsOf ns)) (Tr (howOf ⟨a0, a1, a2, a3⟩ ⟨b0, b1, b2, b3⟩ m n o (partsOf ns)) ((partsOf ns).length - 1)) ⟨qs, Kp121.empty, 0, 0⟩ with
        | none => exact fun H' => .inl ⟨rfl, runAns_none hb eg⟩
        | some g =>
          have er := runAns_some hb eg
          show if g.left_ ≠ [] then ∀ H', Ex (.ref t.CW) none H' else if 65536 < g.steps then ∀ H', Ex (.ref t.CT) none H' else ∀ H', _
          refine ite2 (fun z => ?_) (fun z => ?_)
          · rw [if_pos z] at er
            exact fun H' => .inl ⟨rfl, er⟩
          · rw [if_neg z] at er
            refine ite2 (fun z2 => ?_) (fun z2 => ?_)
            · rw [if_pos z2] at er
              exact fun H' => .inr ⟨rfl, er⟩
            · rw [if_neg z2] at er
              intro H'
              refine ⟨by show 2 ≤ sizeLine; decide, fun p hp => q p _ ?_⟩
              rw [upd_same, er]
      · rintro cls H' σ' (⟨rfl, er⟩ | ⟨rfl, er⟩)
        · refine .inl ⟨rfl, rd_retC (rd_lst (rd_consV val_c (rd_consV val_c ⟨by show 2 ≤ sizeLine; decide, fun p hp => q p _ ?_⟩)))⟩
          rw [upd_same, er]
        · refine .inr ⟨rfl, rd_retC (rd_lst (rd_consV val_c (rd_consV val_c ⟨by show 2 ≤ sizeLine; decide, fun p hp => q p _ ?_⟩)))⟩
          rw [upd_same, er]
end
end My
open PySem PySem.W PyProof.Rows
theorem My.nat_of_in {z : Int} (h : Codec.inInt (Int.ofNat 0) (Int.ofNat 4294967295) z = true) : ((z.toNat : Nat) : Int) = z := Int.toNat_of_nonneg (Codec.inInt_iff.mp h).1
theorem My.natural_nn {z : Int} (h : Kp121Neutral.natural z 32 = true) : 0 ≤ z := by
  unfold Kp121Neutral.natural at h
  rw [Bool.and_eq_true, decide_eq_true_eq] at h
  exact h.1
theorem My.asked_of {a0 a1 a2 a3 b0 b1 b2 b3 m n o : Int} {r : List Int} (h : Kp121Neutral.howAsked [a0, a1, a2, a3, b0, b1, b2, b3, m, n, o] r = true) :
    (0 ≤ a0 ∧ 0 ≤ a1 ∧ 0 ≤ a2 ∧ 0 ≤ a3 ∧ 0 ≤ b0 ∧ 0 ≤ b1 ∧ 0 ≤ b2 ∧ 0 ≤ b3 ∧ 0 ≤ m ∧ 0 ≤ n ∧ 0 ≤ o) ∧ r.length % 5 = 0 ∧ ∀ x ∈ r, 0 ≤ x := by
  unfold Kp121Neutral.howAsked at h
  rw [Bool.and_eq_true, Bool.and_eq_true, Bool.and_eq_true, decide_eq_true_eq] at h
  obtain ⟨h1, h2, h3, _⟩ := h
  have q := List.all_eq_true.mp h1
  refine ⟨⟨natural_nn (q _ (by simp)), natural_nn (q _ (by simp)), natural_nn (q _ (by simp)), natural_nn (q _ (by simp)), natural_nn (q _ (by simp)), natural_nn (q _ (by simp)), natural_nn (q _ (by simp)), natural_nn (q _ (by simp)), natural_nn (q _ (by simp)), natural_nn (q _ (by simp)), natural_nn (q _ (by simp))⟩, h2, fun x hx => natural_nn (List.all_eq_true.mp h3 x hx)⟩
theorem My.dw_how {K : Frag} {H : L2.Hp} {xs : List L2.V} {a0 a1 a2 a3 b0 b1 b2 b3 m n o : Int} {ns qs : List Int} (h : L2.DwAll K H xs [.int a0, .int a1, .int a2, .int a3, .int b0, .int b1, .int b2, .int b3, .int m, .int n, .int o, .list (ns.map WData.int), .list (qs.map WData.int)]) :
    ∃ l lq, xs = [.int a0, .int a1, .int a2, .int a3, .int b0, .int b1, .int b2, .int b3, .int m, .int n, .int o, .ref l, .ref lq] ∧ L2.SqL K H l (ns.map L2.V.int) ∧ L2.SqL K H lq (qs.map L2.V.int) := by
  obtain ⟨y0, e0, h0⟩ := dw_int h
  obtain ⟨y1, e1, h1⟩ := dw_int h0
  obtain ⟨y2, e2, h2⟩ := dw_int h1
  obtain ⟨y3, e3, h3⟩ := dw_int h2
  obtain ⟨y4, e4, h4⟩ := dw_int h3
  obtain ⟨y5, e5, h5⟩ := dw_int h4
  obtain ⟨y6, e6, h6⟩ := dw_int h5
  obtain ⟨y7, e7, h7⟩ := dw_int h6
  obtain ⟨y8, e8, h8⟩ := dw_int h7
  obtain ⟨y9, e9, h9⟩ := dw_int h8
  obtain ⟨y10, e10, h10⟩ := dw_int h9
  obtain ⟨l, y11, e11, hS, h11⟩ := dw_list h10
  obtain ⟨lq, y12, e12, hS2, h12⟩ := dw_list h11
  have e13 := dw_nil h12
  exact ⟨l, lq, by rw [e0, e1, e2, e3, e4, e5, e6, e7, e8, e9, e10, e11, e12, e13], hS, hS2⟩
theorem My.nV_of {qs : List Int} (h : ∀ x ∈ qs, 0 ≤ x) : My.nV (qs.map Int.toNat) = qs.map L2.V.int := by
  unfold My.nV
  rw [List.map_map]
  refine List.map_congr_left fun x hx => ?_
  show L2.V.int ((x.toNat : Nat) : Int) = L2.V.int x
  rw [Int.toNat_of_nonneg (h x hx)]
set_option maxRecDepth 100000 in
set_option maxHeartbeats 0 in
theorem PySem.Challenge.cw_longestrun_s03_tt_run_holds : PySem.Challenge.rw_longestrun_s03_tt_run.Holds := by
  w_on; k_headS; (case hw => exact ⟨[.int 0, .int 0, .int 0, .int 0, .int 0, .int 0, .int 0, .int 0, .int 0, .int 0, .int 0, .list [], .list []], by decide +kernel, by decide +kernel⟩)
  k_fillS
  refine L2.walk_specK (r := PySem.Challenge.rw_longestrun_s03_tt_run) (k := 69) (CX := L2.CX0) (ps := ["codeLine", "codeSets", "codeWays", "codeNone", "dataLine", "dataSets", "dataWays", "dataNone", "codeMiss", "dataMiss", "none", "part", "choice"]) (sp := fun K => My.sp_tt K) (by decide +kernel) rfl rfl ⟨rfl, by decide, by decide⟩ (fun w h Y => PySem.W.kIn_of Y) ?F ?S (fun _ _ _ _ z => z)
  case F =>
    intro w mg fa h Y KX G hmg
    have D_line_of : My.DefAt (L2.KOf KX) mg "line_of" My.s_line_of := by
      dsimp only [L2.KOf]
      refine' My.defAt_mk KX G ?a ?l ?c ?k
      (case a => k_is); (case l => k_is); (case c => k_is); (case k => k_is)
    have D_has_bytes : My.DefAt (L2.KOf KX) mg "has_bytes" My.s_has_bytes := by
      dsimp only [L2.KOf]
      refine' My.defAt_mk KX G ?a ?l ?c ?k
      (case a => k_is); (case l => k_is); (case c => k_is); (case k => k_is)
    have D_count_lines : My.DefAt (L2.KOf KX) mg "count_lines" My.s_count_lines := by
      dsimp only [L2.KOf]
      refine' My.defAt_mk KX G ?a ?l ?c ?k
      (case a => k_is); (case l => k_is); (case c => k_is); (case k => k_is)
    have D_kind_is_right : My.DefAt (L2.KOf KX) mg "kind_is_right" My.s_kind_is_right := by
      dsimp only [L2.KOf]
      refine' My.defAt_mk KX G ?a ?l ?c ?k
      (case a => k_is); (case l => k_is); (case c => k_is); (case k => k_is)
    have D_part_is_right : My.DefAt (L2.KOf KX) mg "part_is_right" My.s_part_is_right := by
      dsimp only [L2.KOf]
      refine' My.defAt_mk KX G ?a ?l ?c ?k
      (case a => k_is); (case l => k_is); (case c => k_is); (case k => k_is)
    have D_parts_are_right : My.DefAt (L2.KOf KX) mg "parts_are_right" My.s_parts_are_right := by
      dsimp only [L2.KOf]
      refine' My.defAt_mk KX G ?a ?l ?c ?k
      (case a => k_is); (case l => k_is); (case c => k_is); (case k => k_is)
    have D_measure_part : My.DefAt (L2.KOf KX) mg "measure_part" My.s_measure_part := by
      dsimp only [L2.KOf]
      refine' My.defAt_mk KX G ?a ?l ?c ?k
      (case a => k_is); (case l => k_is); (case c => k_is); (case k => k_is)
    have D_measure_program : My.DefAt (L2.KOf KX) mg "measure_program" My.s_measure_program := by
      dsimp only [L2.KOf]
      refine' My.defAt_mk KX G ?a ?l ?c ?k
      (case a => k_is); (case l => k_is); (case c => k_is); (case k => k_is)
    have D_program_is_right : My.DefAt (L2.KOf KX) mg "program_is_right" My.s_program_is_right := by
      dsimp only [L2.KOf]
      refine' My.defAt_mk KX G ?a ?l ?c ?k
      (case a => k_is); (case l => k_is); (case c => k_is); (case k => k_is)
    have D_how_is_right : My.DefAt (L2.KOf KX) mg "how_is_right" My.s_how_is_right := by
      dsimp only [L2.KOf]
      refine' My.defAt_mk KX G ?a ?l ?c ?k
      (case a => k_is); (case l => k_is); (case c => k_is); (case k => k_is)
    have D_parts_from_numbers : My.DefAt (L2.KOf KX) mg "parts_from_numbers" My.s_parts_from_numbers := by
      dsimp only [L2.KOf]
      refine' My.defAt_mk KX G ?a ?l ?c ?k
      (case a => k_is); (case l => k_is); (case c => k_is); (case k => k_is)
    have D_read_how : My.DefAt (L2.KOf KX) mg "read_how" My.s_read_how := by
      dsimp only [L2.KOf]
      refine' My.defAt_mk KX G ?a ?l ?c ?k
      (case a => k_is); (case l => k_is); (case c => k_is); (case k => k_is)
    have D_chooses : My.DefAt (L2.KOf KX) mg "chooses" My.s_chooses := by
      dsimp only [L2.KOf]
      refine' My.defAt_mk KX G ?a ?l ?c ?k
      (case a => k_is); (case l => k_is); (case c => k_is); (case k => k_is)
    have D_which_choose : My.DefAt (L2.KOf KX) mg "which_choose" My.s_which_choose := by
      dsimp only [L2.KOf]
      refine' My.defAt_mk KX G ?a ?l ?c ?k
      (case a => k_is); (case l => k_is); (case c => k_is); (case k => k_is)
    have D_long_of_run : My.DefAt (L2.KOf KX) mg "long_of_run" My.s_long_of_run := by
      dsimp only [L2.KOf]
      refine' My.defAt_mk KX G ?a ?l ?c ?k
      (case a => k_is); (case l => k_is); (case c => k_is); (case k => k_is)
    have D_tt_run : My.DefAt (L2.KOf KX) mg "tt_run" My.s_tt_run := by
      dsimp only [L2.KOf]
      refine' My.defAt_mk KX G ?a ?l ?c ?k
      (case a => k_is); (case l => k_is); (case c => k_is); (case k => k_is)
    have c_Kind : ∃ C, My.ClsAt (L2.KOf KX) mg "Kind" "Kind.__init__" My.s_Kind C My.kindN := by
      dsimp only [L2.KOf]
      refine' ⟨_, My.clsAt_mk KX G ?a ?b ?i ?l ?c ?k ?pg ?hd ?po ?sa ?mk ?kc ?na⟩
      (case a => k_is); (case b => k_is); (case i => k_is); (case l => k_is); (case c => k_is); (case k => k_is)
      (case pg => k_is); (case hd => k_is); (case po => k_is); (case sa => k_is); (case mk => k_is); (case kc => k_is)
      (case na => exact My.na_cons (by k_is) (My.na_cons (by k_is) (My.na_cons (by k_is) (My.na_cons (by k_is) (My.na_nil)))))
    obtain ⟨C_Kind, c_Kind⟩ := c_Kind
    have c_Part : ∃ C, My.ClsAt (L2.KOf KX) mg "Part" "Part.__init__" My.s_Part C My.partN := by
      dsimp only [L2.KOf]
      refine' ⟨_, My.clsAt_mk KX G ?a ?b ?i ?l ?c ?k ?pg ?hd ?po ?sa ?mk ?kc ?na⟩
      (case a => k_is); (case b => k_is); (case i => k_is); (case l => k_is); (case c => k_is); (case k => k_is)
      (case pg => k_is); (case hd => k_is); (case po => k_is); (case sa => k_is); (case mk => k_is); (case kc => k_is)
      (case na => exact My.na_cons (by k_is) (My.na_cons (by k_is) (My.na_cons (by k_is) (My.na_cons (by k_is) (My.na_cons (by k_is) (My.na_nil))))))
    obtain ⟨C_Part, c_Part⟩ := c_Part
    have c_How : ∃ C, My.ClsAt (L2.KOf KX) mg "How" "How.__init__" My.s_How C My.howN := by
      dsimp only [L2.KOf]
      refine' ⟨_, My.clsAt_mk KX G ?a ?b ?i ?l ?c ?k ?pg ?hd ?po ?sa ?mk ?kc ?na⟩
      (case a => k_is); (case b => k_is); (case i => k_is); (case l => k_is); (case c => k_is); (case k => k_is)
      (case pg => k_is); (case hd => k_is); (case po => k_is); (case sa => k_is); (case mk => k_is); (case kc => k_is)
      (case na => exact My.na_cons (by k_is) (My.na_cons (by k_is) (My.na_cons (by k_is) (My.na_cons (by k_is) (My.na_cons (by k_is) (My.na_cons (by k_is) (My.na_nil)))))))
    obtain ⟨C_How, c_How⟩ := c_How
    have c_Measure : ∃ C, My.ClsAt (L2.KOf KX) mg "Measure" "Measure.__init__" My.s_Measure C My.measN := by
      dsimp only [L2.KOf]
      refine' ⟨_, My.clsAt_mk KX G ?a ?b ?i ?l ?c ?k ?pg ?hd ?po ?sa ?mk ?kc ?na⟩
      (case a => k_is); (case b => k_is); (case i => k_is); (case l => k_is); (case c => k_is); (case k => k_is)
      (case pg => k_is); (case hd => k_is); (case po => k_is); (case sa => k_is); (case mk => k_is); (case kc => k_is)
      (case na => exact My.na_cons (by k_is) (My.na_cons (by k_is) (My.na_cons (by k_is) (My.na_nil))))
    obtain ⟨C_Measure, c_Measure⟩ := c_Measure
    have c_Held : ∃ C, My.ClsAt (L2.KOf KX) mg "Held" "Held.__init__" My.s_Held C My.heldN ∧ My.MethAt (L2.KOf KX) C "use" "Held.use" My.s_Held_use := by
      dsimp only [L2.KOf]
      refine' ⟨_, My.clsAt_mk KX G ?a ?b ?i ?l ?c ?k ?pg ?hd ?po ?sa ?mk ?kc ?na, My.methAt_mk ?a0 ?i0 ?l0 ?c0 ?k0⟩
      (case a => k_is); (case b => k_is); (case i => k_is); (case l => k_is); (case c => k_is); (case k => k_is)
      (case pg => k_is); (case hd => k_is); (case po => k_is); (case sa => k_is); (case mk => k_is); (case kc => k_is)
      (case na => exact My.na_cons (by k_is) (My.na_cons (by k_is) (My.na_nil)))
      (case a0 => k_is); (case i0 => k_is); (case l0 => k_is); (case c0 => k_is); (case k0 => k_is)
    obtain ⟨C_Held, c_Held, D_Held_use⟩ := c_Held
    have c_Run : ∃ C, My.ClsAt (L2.KOf KX) mg "Run" "Run.__init__" My.s_Run C My.runN ∧ My.MethAt (L2.KOf KX) C "choose" "Run.choose" My.s_Run_choose ∧ My.MethAt (L2.KOf KX) C "matters" "Run.matters" My.s_Run_matters ∧ My.MethAt (L2.KOf KX) C "run" "Run.run" My.s_Run_run ∧ My.MethAt (L2.KOf KX) C "run_step" "Run.run_step" My.s_Run_run_step ∧ My.MethAt (L2.KOf KX) C "run_loop" "Run.run_loop" My.s_Run_run_loop := by
      dsimp only [L2.KOf]
      refine' ⟨_, My.clsAt_mk KX G ?a ?b ?i ?l ?c ?k ?pg ?hd ?po ?sa ?mk ?kc ?na, My.methAt_mk ?a0 ?i0 ?l0 ?c0 ?k0, My.methAt_mk ?a1 ?i1 ?l1 ?c1 ?k1, My.methAt_mk ?a2 ?i2 ?l2 ?c2 ?k2, My.methAt_mk ?a3 ?i3 ?l3 ?c3 ?k3, My.methAt_mk ?a4 ?i4 ?l4 ?c4 ?k4⟩
      (case a => k_is); (case b => k_is); (case i => k_is); (case l => k_is); (case c => k_is); (case k => k_is)
      (case pg => k_is); (case hd => k_is); (case po => k_is); (case sa => k_is); (case mk => k_is); (case kc => k_is)
      (case na => exact My.na_cons (by k_is) (My.na_cons (by k_is) (My.na_cons (by k_is) (My.na_cons (by k_is) (My.na_cons (by k_is) (My.na_cons (by k_is) (My.na_cons (by k_is) (My.na_cons (by k_is) (My.na_nil)))))))))
      (case a0 => k_is); (case i0 => k_is); (case l0 => k_is); (case c0 => k_is); (case k0 => k_is)
      (case a1 => k_is); (case i1 => k_is); (case l1 => k_is); (case c1 => k_is); (case k1 => k_is)
      (case a2 => k_is); (case i2 => k_is); (case l2 => k_is); (case c2 => k_is); (case k2 => k_is)
      (case a3 => k_is); (case i3 => k_is); (case l3 => k_is); (case c3 => k_is); (case k3 => k_is)
      (case a4 => k_is); (case i4 => k_is); (case l4 => k_is); (case c4 => k_is); (case k4 => k_is)
    obtain ⟨C_Run, c_Run, D_Run_choose, D_Run_matters, D_Run_run, D_Run_run_step, D_Run_run_loop⟩ := c_Run
    have hX : ∃ C1 C2, (mg "WrongChoices" = some (.ref C1) ∧ mg "TooManySteps" = some (.ref C2)) ∧ (My.ExcAt (L2.KOf KX) C1 ∧ My.ExcAt (L2.KOf KX) C2) ∧ PySem.W.exmOne (L2.KOf KX) (.ref C1) (.ref C1) = some true ∧ PySem.W.exmOne (L2.KOf KX) (.ref C2) (.ref C1) = some false ∧ PySem.W.exmOne (L2.KOf KX) (.ref C2) (.ref C2) = some true := by
      dsimp only [L2.KOf]
      refine' My.exc2_mk KX G ?a ?b ?x1 ?x2 ?n1 ?n2 ?n3
      (case a => k_is); (case b => k_is); (case x1 => k_exc); (case x2 => k_exc); (case n1 => kts_exm); (case n2 => kts_exm); (case n3 => kts_exm)
    obtain ⟨CW, CT, ⟨mW, mT⟩, ⟨xW, xT⟩, n11, n21, n22⟩ := hX
    have hSC : ∃ a, My.Glob mg "SET_COUNTS" (.ref a) ∧ ∀ H, L2.SqT (L2.KOf KX) H a [.int 1, .int 2, .int 4, .int 8, .int 16] := by
      dsimp only [L2.KOf]
      refine' My.tup5_mk KX G ?e ?l
      (case e => k_is); (case l => k_is)
    obtain ⟨SC, gSC, sqSC⟩ := hSC
    have g_FIELDS : My.Glob mg "FIELDS" (.int 5) := by
      refine' My.glob_int KX G ?e
      (case e => k_is)
    have g_STEP : My.Glob mg "STEP" (.int 0) := by
      refine' My.glob_int KX G ?e
      (case e => k_is)
    have g_BEHIND : My.Glob mg "BEHIND" (.int 1) := by
      refine' My.glob_int KX G ?e
      (case e => k_is)
    have g_EITHER : My.Glob mg "EITHER" (.int 2) := by
      refine' My.glob_int KX G ?e
      (case e => k_is)
    have g_LOOP : My.Glob mg "LOOP" (.int 3) := by
      refine' My.glob_int KX G ?e
      (case e => k_is)
    have g_MOST_MISS : My.Glob mg "MOST_MISS" (.int 65535) := by
      refine' My.glob_int KX G ?e
      (case e => k_is)
    have g_MOST_PARTS : My.Glob mg "MOST_PARTS" (.int 64) := by
      refine' My.glob_int KX G ?e
      (case e => k_is)
    have g_MOST_STEP_TIME : My.Glob mg "MOST_STEP_TIME" (.int 65535) := by
      refine' My.glob_int KX G ?e
      (case e => k_is)
    have g_MOST_TIMES : My.Glob mg "MOST_TIMES" (.int 4096) := by
      refine' My.glob_int KX G ?e
      (case e => k_is)
    have g_MOST_LINES : My.Glob mg "MOST_LINES" (.int 64) := by
      refine' My.glob_int KX G ?e
      (case e => k_is)
    have g_MOST_SIZE : My.Glob mg "MOST_SIZE" (.int 1024) := by
      refine' My.glob_int KX G ?e
      (case e => k_is)
    have g_MOST_DEPTH : My.Glob mg "MOST_DEPTH" (.int 32) := by
      refine' My.glob_int KX G ?e
      (case e => k_is)
    have g_MOST_STEPS : My.Glob mg "MOST_STEPS" (.int 4294967296) := by
      refine' My.glob_int KX G ?e
      (case e => k_is)
    have g_WRONG_CHOICES : My.Glob mg "WRONG_CHOICES" (.int (-2)) := by
      refine' My.glob_int KX G ?e
      (case e => k_is)
    have g_TOO_MANY_STEPS : My.Glob mg "TOO_MANY_STEPS" (.int (-28)) := by
      refine' My.glob_int KX G ?e
      (case e => k_is)
    have g_MOST_MADE : My.Glob mg "MOST_MADE" (.int 65536) := by
      refine' My.glob_int KX G ?e
      (case e => k_is)
    have g_NOT_RIGHT : My.Glob mg "NOT_RIGHT" (.int (-22)) := by
      refine' My.glob_int KX G ?e
      (case e => k_is)
    have b_len : mg "len" = none := by
      refine' PySem.W.mg_none_of KX G ?e
      (case e => k_is)
    have b_max : mg "max" = none := by
      refine' PySem.W.mg_none_of KX G ?e
      (case e => k_is)
    have b_all : mg "all" = none := by
      refine' PySem.W.mg_none_of KX G ?e
      (case e => k_is)
    have b_range : mg "range" = none := by
      refine' PySem.W.mg_none_of KX G ?e
      (case e => k_is)
    have b_enumerate : mg "enumerate" = none := by
      refine' PySem.W.mg_none_of KX G ?e
      (case e => k_is)
    have T : My.Txt (L2.KOf KX) mg ⟨C_Kind, C_Part, C_How, C_Measure, SC, C_Held, C_Run, CW, CT⟩ := ⟨⟨c_Kind.cl, c_Kind.na, by decide +kernel⟩, ⟨c_Part.cl, c_Part.na, by decide +kernel⟩, ⟨c_How.cl, c_How.na, by decide +kernel⟩, ⟨c_Measure.cl, c_Measure.na, by decide +kernel⟩, sqSC,
      g_FIELDS, g_STEP, g_BEHIND, g_EITHER, g_LOOP, gSC, g_MOST_MISS, g_MOST_PARTS, g_MOST_STEP_TIME, g_MOST_TIMES, g_MOST_LINES, g_MOST_SIZE, g_MOST_DEPTH, g_MOST_STEPS, g_WRONG_CHOICES, g_TOO_MANY_STEPS, g_MOST_MADE, ⟨c_Held.cl, c_Held.na, by decide +kernel⟩, ⟨c_Run.cl, c_Run.na, by decide +kernel⟩, mW, mT, xW, xT, n11, n21, n22, g_NOT_RIGHT, b_len, b_max, b_all, b_range, b_enumerate⟩
    refine My.fin_F D_tt_run hmg (fun _ _ _ _ _ _ us hl => match us, hl with | [_, _, _, _, _, _, _, _, _, _, _, _, _], _ => rfl) fun base kb nb => ?_
    have o_hb := My.ok_has_bytes (P := PySem.Challenge.rw_longestrun_s03_tt_run.prog) (w := w) (base := base) D_has_bytes T
    have o_lo := My.ok_line_of (P := PySem.Challenge.rw_longestrun_s03_tt_run.prog) (w := w) (base := base) D_line_of T
    have o1 := My.ok_count_lines D_count_lines T o_lo o_hb
    have o2 := My.ok_parts_are_right D_parts_are_right T (My.ok_part_is_right D_part_is_right T o1)
    have o3 := My.ok_program_is_right (P := PySem.Challenge.rw_longestrun_s03_tt_run.prog) (w := w) (base := base) D_program_is_right T (My.ok_measure_program D_measure_program T (My.ok_measure_part D_measure_part T (My.okc_Measure c_Measure)))
    have o4 := My.ok_how_is_right D_how_is_right T (My.ok_kind_is_right D_kind_is_right T) o2 o3
    have o5 := My.ok_read_how (P := PySem.Challenge.rw_longestrun_s03_tt_run.prog) (w := w) (base := base) D_read_how T (My.okc_Kind c_Kind) (My.okc_How c_How) (My.ok_parts_from_numbers D_parts_from_numbers T (My.okc_Part c_Part))
    have o6 := fun D => My.ok_Run (P := PySem.Challenge.rw_longestrun_s03_tt_run.prog) (w := w) (base := base) c_Run T D (My.ok_which_choose D_which_choose T (My.ok_chooses D_chooses T o_hb)) (My.ok_Held c_Held T)
    have o7 := My.ok_Held_use (P := PySem.Challenge.rw_longestrun_s03_tt_run.prog) (w := w) (base := base) D_Held_use T o_lo
    have o8 := fun D => My.ok_Run_choose (P := PySem.Challenge.rw_longestrun_s03_tt_run.prog) (w := w) (base := base) D_Run_choose T D
    have o9 := fun D => My.ok_Run_matters (P := PySem.Challenge.rw_longestrun_s03_tt_run.prog) (w := w) (base := base) D_Run_matters T D
    have o10 := fun D => My.ok_Run_run_step D_Run_run_step T D o7 (o8 D) o_hb
    have o11 := fun D => My.ok_Run_run D_Run_run D_Run_run_loop T D (o8 D) (o9 D) (o10 D) 32
    exact My.ok_tt_run D_tt_run T o5 o4 (My.ok_long_of_run D_long_of_run T o6 o11)
  case S =>
    intro K H xs a hO hwi hask hx
    obtain ⟨a0, a1, a2, a3, b0, b1, b2, b3, m, n, o, ns, qs, u⟩ := a
    have hask : (Kp121Neutral.howAsked [a0, a1, a2, a3, b0, b1, b2, b3, m, n, o] ns && (qs.all fun z => Kp121Neutral.natural z 32)) = true := hask
    rw [Bool.and_eq_true] at hask
    obtain ⟨⟨p0, p1, p2, p3, p4, p5, p6, p7, p8, p9, p10⟩, hmod, hnn⟩ := My.asked_of hask.1
    have hqn : ∀ x ∈ qs, 0 ≤ x := fun x hx => My.natural_nn (List.all_eq_true.mp hask.2 x hx)
    have hlen : ns.length ≤ 400 := by
      have q : (Codec.inInt (Int.ofNat 0) (Int.ofNat 4294967295) a0 && (Codec.inInt (Int.ofNat 0) (Int.ofNat 4294967295) a1 && (Codec.inInt (Int.ofNat 0) (Int.ofNat 4294967295) a2 && (Codec.inInt (Int.ofNat 0) (Int.ofNat 4294967295) a3 && (Codec.inInt (Int.ofNat 0) (Int.ofNat 4294967295) b0 && (Codec.inInt (Int.ofNat 0) (Int.ofNat 4294967295) b1 && (Codec.inInt (Int.ofNat 0) (Int.ofNat 4294967295) b2 && (Codec.inInt (Int.ofNat 0) (Int.ofNat 4294967295) b3 && (Codec.inInt (Int.ofNat 0) (Int.ofNat 4294967295) m && (Codec.inInt (Int.ofNat 0) (Int.ofNat 4294967295) n && (Codec.inInt (Int.ofNat 0) (Int.ofNat 4294967295) o && ((Codec.inLen 0 400 ns && ns.all (Codec.inInt (Int.ofNat 0) (Int.ofNat 4294967295))) && ((Codec.inLen 0 30000 qs && qs.all (Codec.inInt (Int.ofNat 0) (Int.ofNat 4294967295))) && true))))))))))))) = true := hwi
      simp only [Bool.and_eq_true] at q
      exact (Codec.inNat_iff.mp q.2.2.2.2.2.2.2.2.2.2.2.1.1).2
    obtain ⟨l, lq, rfl, hS, hS2⟩ := My.dw_how (show L2.DwAll K H xs [.int a0, .int a1, .int a2, .int a3, .int b0, .int b1, .int b2, .int b3, .int m, .int n, .int o, .list (ns.map WData.int), .list (qs.map WData.int)] from hx)
    refine ⟨a0.toNat, a1.toNat, a2.toNat, a3.toNat, b0.toNat, b1.toNat, b2.toNat, b3.toNat, m.toNat, n.toNat, o.toNat, l, lq, ns, ns.length / 5, qs.map Int.toNat, ?_, hS, by omega, by omega, hnn, ?_, ?_⟩
    · rw [Int.toNat_of_nonneg p0, Int.toNat_of_nonneg p1, Int.toNat_of_nonneg p2, Int.toNat_of_nonneg p3, Int.toNat_of_nonneg p4, Int.toNat_of_nonneg p5, Int.toNat_of_nonneg p6, Int.toNat_of_nonneg p7, Int.toNat_of_nonneg p8, Int.toNat_of_nonneg p9, Int.toNat_of_nonneg p10]
    · rw [My.nV_of hqn]
      exact hS2
    · intro p H' hp
      show L2.Dw K H' (.ref p) (.list ((PyKp121.tt_run a0 a1 a2 a3 b0 b1 b2 b3 m n o ns qs).map WData.int))
      rw [My.tt_run_eq hmod]
      exact .lst (L2.SqL.of hp) (.cons (.int _) (.cons (.int _) .nil))
#print axioms PySem.Challenge.cw_longestrun_s03_tt_run_holds
