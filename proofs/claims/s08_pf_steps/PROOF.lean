import PyProof.Rows.All
import Wide.All
import OpenK.AllK
import Wide.FinOn
import PyProof.EqAt
import PyProof.EqKinds
import PyProof.TupleCall
import KE.BitLaws
import Sa79Spec
import PySa79
import PySem.Builtin.Int.W1All
import PyProof.MinMaxWalk
import PyProof.WalkInts
import KE.OsGo
import Open.SpecLaws
import PyProof.Rows.InDataRows
import PySem.Challenge.RW_plaingraphs_s08_pf_steps
set_option Elab.async false
set_option linter.all false
set_option maxRecDepth 100000
/-! THE HAND LAYER, for ints, bools, texts, own classes, lists, tuples, dicts, comprehensions, walks over dicts, enumerate, zip, reversed, texts, calls, loops. Paste it whole ahead of your own text; what your proof does not reach may be deleted. -/
namespace L2
open PySem PySem.Spec PyProof.Rows

/-- a key: an int or a str -/
abbrev Key := Sum Int Str
def keyIs : Key → Value → Bool
  | .inl k, v => Value.isInt k v
  | .inr x, v => Value.isStrOf x v
def keyH (w : World) : Key → Int
  | .inl k => hashInt k
  | .inr x => hashStr w x
theorem keyIs_shape : ∀ {k : Key} {v : Value}, keyIs k v = true → (∃ i t, k = Sum.inl i ∧ v = Value.int i t) ∨ (∃ x t, k = Sum.inr x ∧ v = Value.str x t)
  | .inl i, v, h => by
    obtain ⟨t, e⟩ := Value.isInt_shape (k := i) (v := v) h
    exact .inl ⟨i, t, rfl, e⟩
  | .inr x, v, h => by
    obtain ⟨t, e⟩ := Value.isStrOf_shape (x := x) (v := v) h
    exact .inr ⟨x, t, rfl, e⟩
theorem key_ll (a b : Int) : decide ((Sum.inl a : Key) = Sum.inl b) = (a == b) := by
  by_cases e : a = b
  · subst e; simp
  · have h : ¬ (Sum.inl a : Key) = Sum.inl b := fun q => e (Sum.inl.inj q)
    rw [decide_eq_false h]
    exact (beq_eq_false_iff_ne.mpr e).symm
theorem key_rr (a b : Str) : decide ((Sum.inr a : Key) = Sum.inr b) = decide (a = b) := by
  by_cases e : a = b
  · subst e; simp
  · have h : ¬ (Sum.inr a : Key) = Sum.inr b := fun q => e (Sum.inr.inj q)
    rw [decide_eq_false h, decide_eq_false e]
theorem key_lr (a : Int) (b : Str) : decide ((Sum.inl a : Key) = Sum.inr b) = false := decide_eq_false (fun q => nomatch q)
theorem key_rl (a : Str) (b : Int) : decide ((Sum.inr a : Key) = Sum.inl b) = false := decide_eq_false (fun q => nomatch q)

def mixKind (prog : Program) (w : World) : PySem.KeyKind prog w Key where
  is := keyIs
  hash := keyH w
  inj := fun v a b ha hb => by
    rcases keyIs_shape ha with ⟨i, t, rfl, rfl⟩ | ⟨x, t, rfl, rfl⟩
    · rcases keyIs_shape hb with ⟨j, u, rfl, e⟩ | ⟨y, u, rfl, e⟩
      · injection e with e1 _; rw [e1]
      · exact nomatch e
    · rcases keyIs_shape hb with ⟨j, u, rfl, e⟩ | ⟨y, u, rfl, e⟩
      · exact nomatch e
      · injection e with e1 _; rw [e1]
  byValue := fun k v h => by
    rcases keyIs_shape h with ⟨i, t, rfl, rfl⟩ | ⟨x, t, rfl, rfl⟩ <;> rfl
  pyHash := fun hv h => by
    rcases keyIs_shape hv with ⟨i, t, rfl, rfl⟩ | ⟨x, t, rfl, rfl⟩
    · exact wpAny_pyHash_int h
    · exact wpAny_pyHash_str h
  eqBool := fun hu hv h => by
    rcases keyIs_shape hu with ⟨i, t, rfl, rfl⟩ | ⟨x, t, rfl, rfl⟩
    · rcases keyIs_shape hv with ⟨j, u, rfl, rfl⟩ | ⟨y, u, rfl, rfl⟩
      · rw [key_ll] at h; exact wpAny_eqBool_int h
      · rw [key_lr] at h; exact SeqAt.EqAt.int_str i t y u _ _ _ _ h
    · rcases keyIs_shape hv with ⟨j, u, rfl, rfl⟩ | ⟨y, u, rfl, rfl⟩
      · rw [key_rl] at h; exact SeqAt.EqAt.str_int x t j u _ _ _ _ h
      · rw [key_rr] at h; exact wpAny_eqBool_str h
  «strs» := fun k x t v h => by
    rcases keyIs_shape h with ⟨i, u, rfl, e⟩ | ⟨y, u, rfl, e⟩
    · exact nomatch e
    · injection e with e1 _
      subst e1
      cases v <;> rfl

end L2

namespace L2
open PySem PySem.Spec PyProof.Rows

/-- a value, without the heap -/
inductive V where
  | non | bl (b : Bool) | int (i : Int) | str (x : Str) | byt (b : Array UInt8) | flt (b : UInt64) | ref (a : Addr) | ty (n : String)
  deriving DecidableEq

def RelV : V → Value → Prop
  | .non, u => u = Value.none
  | .bl b, u => u = Value.bool b
  | .int i, u => ∃ t, u = Value.int i t
  | .str x, u => ∃ t, u = Value.str x t
  | .byt b, u => ∃ t, u = Value.bytes b t
  | .flt b, u => ∃ t, u = Value.float b t
  | .ref a, u => u = Value.ref a
  | .ty n, u => u = Value.type n

abbrev Vals : List V → List Value → Prop := Paired RelV
theorem Vals.length {xs : List V} {us : List Value} (r : Vals xs us) : xs.length = us.length := Paired.length r
theorem Vals.get : ∀ {xs : List V} {us : List Value} {i : Nat} {x : V}, Vals xs us → xs[i]? = some x → ∃ u, us[i]? = some u ∧ RelV x u
  | _, _, _, _, .nil, e => by simp at e
  | _, _, 0, _, .cons r _, e => by simp at e; subst e; exact ⟨_, rfl, r⟩
  | _, _, i + 1, x, .cons _ t, e => by
    obtain ⟨u, h1, h2⟩ := Vals.get (i := i) (x := x) t (by simpa using e)
    exact ⟨u, by simpa using h1, h2⟩
theorem Vals.append : ∀ {xs ys : List V} {us ws : List Value}, Vals xs us → Vals ys ws → Vals (xs ++ ys) (us ++ ws)
  | _, _, _, _, .nil, s => s
  | _, _, _, _, .cons r t, s => .cons r (Vals.append t s)
def RelO : Option V → Option Value → Prop
  | some v, some u => RelV v u
  | none, none => True
  | _, _ => False
def KV {κ : Type} : List (κ × V) → List (κ × Value) → Prop := Paired fun (p : κ × V) (q : κ × Value) => p.1 = q.1 ∧ RelV p.2 q.2

/-- a key of a dict (00_mix): an int or a text -/
def kV : Key → V
  | .inl i => .int i
  | .inr x => .str x

/-- what stands at a tracked address -/
inductive HO where
  /-- a list -/
  | lst (xs : List V)
  /-- a tuple (never changes) -/
  | tup (xs : List V)
  /-- a dict whose keys are ints and texts; one whose keys are tuples of ints and texts (the empty one is both) -/
  | dK (kvs : List (Key × V)) | dT (kvs : List (List Key × V))
  /-- a set of ints: its members, its size -/
  | set (S : Int → Bool) (n : Nat)
  /-- an instance of the class at C, its dict at dx, its attributes -/
  | ins (C dx : Addr) (fs : List (Str × V))
  /-- the dict of the instance at x -/
  | own (x : Addr)
  /-- the dict of an exception -/
  | xd (fs : List (Str × V))
  /-- a bound method, f of x -/
  | met (f x : Addr)
  /-- a range object lo, lo + 1, .. below hi -/
  | rng (lo hi : Int)
  /-- a thing that is known to the object (the script; a dict while a loop walks it): read, never written while it is so -/
  | frz (o : Obj) (u : HO)
  /-- a code object's table -/
  | tbl (ps : Array Value)
  /-- any other thing, by what is true of its one object (a def of one's own: SetO a S n := HO.ext fun h => ..) -/
  | ext (φ : Heap → Prop)

abbrev Hp := Addr → Option HO
def upd (H : Hp) (a : Addr) (o : HO) : Hp := fun b => if b = a then some o else H b
theorem upd_same {H : Hp} {a : Addr} {o : HO} : upd H a o a = some o := by unfold upd; rw [if_pos rfl]
theorem upd_ne {H : Hp} {a b : Addr} {o : HO} (h : b ≠ a) : upd H a o b = H b := by unfold upd; rw [if_neg h]
theorem ne_of_none {H : Hp} {a b : Addr} {o : HO} (h : H a = some o) (h' : H b = none) : a ≠ b := by
  intro e; subst e; rw [h] at h'; cases h'

section
variable (P : Program) (w : World)
def ObjOk (H : Hp) (h : Heap) (a : Addr) : HO → Prop
  | .lst xs => xs.length ≤ sizeLine ∧ ∃ (its : List Value) (n : Nat), Vals xs its ∧ h.get? a = some { cls := .type "list", data := .seq its.toArray n }
  | .tup xs => xs.length ≤ sizeLine ∧ ∃ its : List Value, Vals xs its ∧ IsTup h a its.toArray
  | .dK kvs => kvs.length ≤ sizeLine ∧ (a == sysModules) = false ∧ ∃ vs, KV kvs vs ∧ h.DictOf (mixKind P w) a vs
  | .dT kvs => kvs.length ≤ sizeLine ∧ (a == sysModules) = false ∧ ∃ xs : List (List Key × Addr × Value),
      Paired (fun (p : List Key × V) (q : List Key × Addr × Value) => p.1 = q.1 ∧ H q.2.1 = some (.tup (p.1.map kV)) ∧ RelV p.2 q.2.2) kvs xs ∧
      ∃ o es ep, h.get? a = some o ∧ o.ExactDict ∧ o.data = .dict es ep ∧ es.toList = xs.map (entryOfKey (tupleKind (mixKind P w))) ∧ (xs.map (·.1)).Nodup
  | .set S n => h.SetOf (intKind P w) a S n
  | .ins C dx fs => H dx = some (.own a) ∧ fs.length ≤ 1000 ∧ dx ≠ a ∧ h.get? a = some (PySem.W.instObj C dx) ∧
      ∃ mA, h.Ns1 dx mA ∧ (∀ f, RelO (fs.lookup f) (mA f)) ∧ PySem.Within mA (fs.map (·.1))
  | .own _ => ∃ o, h.get? a = some o
  | .xd fs => ∃ mA, h.Ns1 a mA ∧ ∀ f, RelO (fs.lookup f) (mA f)
  | .rng lo hi => ∃ t u v, h.get? a = some { cls := .type "range", data := .fields #[.int lo t, .int hi u, .int 1 v] }
  | .frz o u => h.get? a = some o ∧ ObjOk H h a u
  | .tbl ps => h.get? a = some { cls := .none, data := .fields ps }
  | .met f x => h.get? a = some (PySem.W.methodObj (.ref f) (.ref x))
  | .ext φ => φ h ∧ (∃ o, h.get? a = some o) ∧ ∀ h1 h2 : Heap, φ h1 → (∀ o, h1.get? a = some o → h2.get? a = some o) → φ h2
/-- the abstract heap is held -/
def HOk (H : Hp) (h : Heap) : Prop := ∀ a o, H a = some o → ObjOk P w H h a o
end

section
variable {P : Program} {w : World} {H H' : Hp} {h h' : Heap} {a : Addr} {o : HO}
theorem ObjOk.lt (x : ObjOk P w H h a o) : a < h.objs.size := by
  cases o with
  | lst xs => obtain ⟨_, _, _, _, e⟩ := x; exact Heap.lt_size e
  | tup xs => obtain ⟨_, _, _, p⟩ := x; exact p.lt
  | dK kvs => obtain ⟨_, _, _, _, o, _, _, e, _⟩ := x; exact Heap.lt_size e
  | dT kvs => obtain ⟨_, _, _, _, o, _, _, e, _⟩ := x; exact Heap.lt_size e
  | set S n => obtain ⟨o, _, _, _, e, _⟩ := x; exact Heap.lt_size e
  | ins C dx fs => obtain ⟨_, _, _, e, _⟩ := x; exact Heap.lt_size e
  | own y => obtain ⟨_, e⟩ := x; exact Heap.lt_size e
  | xd fs => obtain ⟨_, ⟨_, _, _, e, _⟩, _⟩ := x; exact Heap.lt_size e
  | rng lo hi => obtain ⟨_, _, _, e⟩ := x; exact Heap.lt_size e
  | frz ob u => obtain ⟨e, _⟩ := x; exact Heap.lt_size e
  | tbl ps => exact Heap.lt_size (show h.get? a = some _ from x)
  | met f y => exact Heap.lt_size (show h.get? a = some _ from x)
  | ext φ => obtain ⟨_, ⟨_, e⟩, _⟩ := x; exact Heap.lt_size e
theorem Paired.mapP {α β : Type} {F G : α → β → Prop} : ∀ {l₁ : List α} {l₂ : List β}, Paired F l₁ l₂ → (∀ a b, F a b → G a b) → Paired G l₁ l₂
  | _, _, .nil, _ => .nil
  | _, _, .cons r t, f => .cons (f _ _ r) (Paired.mapP t f)
/-- what an object's description leans on: its own object, its own dict, the tuples -/
theorem ObjOk.stay (x : ObjOk P w H h a o) (k : ∀ b u, (b = a ∨ H b = some (.own a)) → h.get? b = some u → h'.get? b = some u)
    (ho : ∀ b, H b = some (.own a) → H' b = some (.own a)) (ht : ∀ b xs, H b = some (.tup xs) → H' b = some (.tup xs)) : ObjOk P w H' h' a o := by
  induction o with
  | lst xs => obtain ⟨z, its, n, r, e⟩ := x; exact ⟨z, its, n, r, k _ _ (.inl rfl) e⟩
  | tup xs => obtain ⟨z, its, r, ob, e, c⟩ := x; exact ⟨z, its, r, ob, k _ _ (.inl rfl) e, c⟩
  | dK kvs => obtain ⟨z, y, vs, r, ob, es, ep, e, c⟩ := x; exact ⟨z, y, vs, r, ob, es, ep, k _ _ (.inl rfl) e, c⟩
  | dT kvs =>
    obtain ⟨z, y, xs, r, ob, es, ep, e, c⟩ := x
    exact ⟨z, y, xs, Paired.mapP r fun p q z => ⟨z.1, ht _ _ z.2.1, z.2.2⟩, ob, es, ep, k _ _ (.inl rfl) e, c⟩
  | set S n => obtain ⟨ob, es, ep, t, e, c⟩ := x; exact ⟨ob, es, ep, t, k _ _ (.inl rfl) e, c⟩
  | ins C dx fs =>
    obtain ⟨d, z, ne, e, mA, ⟨od, es, ep, e2, c⟩, r⟩ := x
    exact ⟨ho _ d, z, ne, k _ _ (.inl rfl) e, mA, ⟨od, es, ep, k _ _ (.inr d) e2, c⟩, r⟩
  | own y => obtain ⟨ob, e⟩ := x; exact ⟨ob, k _ _ (.inl rfl) e⟩
  | xd fs => obtain ⟨mA, ⟨od, es, ep, e, c⟩, r⟩ := x; exact ⟨mA, ⟨od, es, ep, k _ _ (.inl rfl) e, c⟩, r⟩
  | rng lo hi => obtain ⟨t, u, v, e⟩ := x; exact ⟨t, u, v, k _ _ (.inl rfl) e⟩
  | frz ob u ih => obtain ⟨e, q⟩ := x; exact ⟨k _ _ (.inl rfl) e, ih q⟩
  | tbl ps =>
    have e : h.get? a = some { cls := .none, data := .fields ps } := x
    show h'.get? a = some { cls := .none, data := .fields ps }
    exact k a _ (.inl rfl) e
  | met f y =>
    have e : h.get? a = some (PySem.W.methodObj (.ref f) (.ref y)) := x
    show h'.get? a = some (PySem.W.methodObj (.ref f) (.ref y))
    exact k a _ (.inl rfl) e
  | ext φ => obtain ⟨p, ⟨o, e⟩, st⟩ := x; exact ⟨st _ _ p fun o q => k _ _ (.inl rfl) q, ⟨o, k _ _ (.inl rfl) e⟩, st⟩
theorem HOk.lt (x : HOk P w H h) (e : H a = some o) : a < h.objs.size := (x a o e).lt
theorem HOk.fresh (x : HOk P w H h) (e : h.objs.size ≤ a) : H a = none := by
  cases q : H a with
  | none => rfl
  | some u => exact absurd (Nat.lt_of_lt_of_le (x.lt q) e) (Nat.lt_irrefl _)
/-- every object of the heap is kept -/
theorem HOk.kept (x : HOk P w H h) (k : ∀ b u, h.get? b = some u → h'.get? b = some u) : HOk P w H h' := fun a o e =>
  (x a o e).stay (fun b u _ q => k b u q) (fun _ q => q) fun _ _ q => q
/-- a new object is laid and tracked -/
theorem HOk.laid (x : HOk P w H h) (k : ∀ b u, h.get? b = some u → h'.get? b = some u) (hp : h.objs.size ≤ a) (new : ObjOk P w (upd H a o) h' a o) : HOk P w (upd H a o) h' := fun b u e => by
  have hn := x.fresh hp
  by_cases hb : b = a
  · subst hb; rw [upd_same] at e; cases e; exact new
  · rw [upd_ne hb] at e
    exact (x b u e).stay (fun c v _ q => k c v q) (fun c q => by rw [upd_ne (ne_of_none q hn)]; exact q) fun c xs q => by rw [upd_ne (ne_of_none q hn)]; exact q
end

/-- what may be read as u: it is u, or a known u -/
def Rd (H : Hp) (a : Addr) (u : HO) : Prop := H a = some u ∨ ∃ o, H a = some (.frz o u)
theorem Rd.ok {P : Program} {w : World} {H : Hp} {h : Heap} {a : Addr} {u : HO} (r : Rd H a u) (x : HOk P w H h) : ObjOk P w H h a u := by
  rcases r with r | ⟨o, r⟩
  · exact x a u r
  · obtain ⟨_, q⟩ := x a _ r
    exact q
/-- what may be written -/
def Mut : Option HO → Prop
  | some (.lst _) => True
  | some (.dK _) => True
  | some (.dT _) => True
  | some (.set _ _) => True
  | some (.ins _ _ _) => True
  | some (.ext _) => True
  | _ => False
section
variable {P : Program} {w : World} {H : Hp} {h h' : Heap} {x e : Addr} {o' : HO}
/-- the object at e is changed: x itself, or the dict of the instance x -/
theorem HOk.write (ok : HOk P w H h) (mu : Mut (H x)) (he : e = x ∨ H e = some (.own x)) (k : ∀ b u, b ≠ e → h.get? b = some u → h'.get? b = some u) (heo : ∃ u, h'.get? e = some u)
    (new : ObjOk P w (upd H x o') h' x o') : HOk P w (upd H x o') h' := fun b u q => by
  have nown : ∀ c y, H c = some (.own y) → c ≠ x := fun c y r z => by subst z; rw [r] at mu; exact mu
  have ntup : ∀ c xs, H c = some (.tup xs) → c ≠ x := fun c xs r z => by subst z; rw [r] at mu; exact mu
  by_cases hb : b = x
  · subst hb; rw [upd_same] at q; cases q; exact new
  · rw [upd_ne hb] at q
    by_cases hbe : b = e
    · have q' : H b = some (.own x) := by
        rcases he with z | z
        · exact absurd (hbe.trans z) hb
        · rw [hbe]; exact z
      rw [q] at q'; cases q'
      obtain ⟨v, hv⟩ := heo
      exact ⟨v, by rw [hbe]; exact hv⟩
    · refine (ok b u q).stay (fun c v hc r => k c v ?_ r) (fun c r => by rw [upd_ne (nown c b r)]; exact r) fun c xs r => by rw [upd_ne (ntup c xs r)]; exact r
      rcases hc with rfl | hc
      · exact hbe
      · rintro rfl
        rcases he with z | z
        · exact nown c b hc z
        · rw [hc] at z; cases z; exact hb rfl
end

/-! ### kept unless tracked; of the frames at fs (the callers') the slots may change (an exception that passes writes there); of the records at ex (iterators) nothing is said -/
structure Un (fs ex : List Addr) (H H' : Hp) (h h' : Heap) : Prop where
  keep : ∀ b o, h.get? b = some o → H b = none → b ∉ fs → b ∉ ex → h'.get? b = some o
  slot : ∀ b o, h.get? b = some o → H b = none → b ∈ fs → b ∉ ex → ∃ sl, h'.get? b = some { o with slots := sl }
  free : ∀ b o, h.get? b = some o → H b = none → b ∉ ex → H' b = none
  there : ∀ b o, h.get? b = some o → b ∉ ex → ∃ o', h'.get? b = some o'
  tups : ∀ b xs, H b = some (.tup xs) → H' b = some (.tup xs)
  frzs : ∀ b o u, H b = some (.frz o u) → H' b = some (.frz o u)
  tbls : ∀ b ps, H b = some (.tbl ps) → ∃ more, H' b = some (.tbl (ps ++ more))
section
variable {fs fs' ex ex' : List Addr} {H H1 H2 : Hp} {h h1 h2 h' : Heap} {a x e : Addr} {o : HO}
theorem Un.any (u : Un fs ex H H1 h h1) {b : Addr} {ob : Obj} (q : h.get? b = some ob) (n : H b = none) (hx : b ∉ ex) : ∃ sl, h1.get? b = some { ob with slots := sl } := by
  by_cases hb : b ∈ fs
  · exact u.slot b ob q n hb hx
  · exact ⟨ob.slots, u.keep b ob q n hb hx⟩
theorem Un.kept (k : ∀ b u, h.get? b = some u → h'.get? b = some u) : Un fs ex H H h h' :=
  ⟨fun b ob q _ _ _ => k b ob q, fun b ob q _ _ _ => ⟨ob.slots, k b ob q⟩, fun _ _ _ n _ => n, fun b ob q _ => ⟨ob, k b ob q⟩, fun _ _ q => q, fun _ _ _ q => q, fun _ ps q => ⟨#[], by rw [q]; simp⟩⟩
theorem Un.refl : Un fs ex H H h h := Un.kept fun _ _ q => q
theorem Un.laid (k : ∀ b u, h.get? b = some u → h'.get? b = some u) (hp : h.objs.size ≤ a) (hn : H a = none) : Un fs ex H (upd H a o) h h' where
  keep := fun b u q _ _ _ => k b u q
  slot := fun b u q _ _ _ => ⟨u.slots, k b u q⟩
  free := fun b u q n _ => by rw [upd_ne (Nat.ne_of_lt (Nat.lt_of_lt_of_le (Heap.lt_size q) hp))]; exact n
  there := fun b u q _ => ⟨u, k b u q⟩
  tups := fun b xs q => by rw [upd_ne (ne_of_none q hn)]; exact q
  frzs := fun b u xs q => by rw [upd_ne (ne_of_none q hn)]; exact q
  tbls := fun b ps q => ⟨#[], by rw [upd_ne (ne_of_none q hn), q]; simp⟩
theorem Un.write (mu : Mut (H x)) (he : e = x ∨ H e = some (.own x)) (k : ∀ b u, b ≠ e → h.get? b = some u → h'.get? b = some u) (heo : ∃ u, h'.get? e = some u) : Un fs ex H (upd H x o) h h' := by
  have hx : ∀ b, H b = none → b ≠ x := fun b n z => by subst z; rw [n] at mu; exact mu
  have hb : ∀ b, H b = none → b ≠ e := fun b n z => by
    subst z
    rcases he with r | r
    · exact hx b n r
    · rw [n] at r; cases r
  have hm : ∀ b u, H b = some u → ¬ Mut (some u) → b ≠ x := fun b u q nm z => by subst z; rw [q] at mu; exact nm mu
  refine ⟨fun b u q n _ _ => k b u (hb b n) q, fun b u q n _ _ => ⟨u.slots, k b u (hb b n) q⟩, fun b u q n _ => by rw [upd_ne (hx b n)]; exact n, fun b u q _ => ?_,
    fun b xs q => by rw [upd_ne (hm b _ q fun z => z)]; exact q, fun b u xs q => by rw [upd_ne (hm b _ q fun z => z)]; exact q, fun b ps q => ⟨#[], by rw [upd_ne (hm b _ q fun z => z), q]; simp⟩⟩
  by_cases hbe : b = e
  · subst hbe; exact heo
  · exact ⟨u, k b u hbe q⟩
end

/-! ### the heap without what is tracked -/
def trk (h : Heap) (H : Hp) : List Addr := (List.range h.objs.size).filter fun a => (H a).isSome
def hidT (h : Heap) (H : Hp) : Heap := PySem.W.hideAll h (trk h H)
theorem hidT_size (h : Heap) (H : Hp) : (hidT h H).objs.size = h.objs.size := PySem.W.hideAll_size _ _
theorem hidT_get {h : Heap} {H : Hp} {b : Addr} {o : Obj} (e : h.get? b = some o) (n : H b = none) : (hidT h H).get? b = some o :=
  PySem.W.hideAll_get _ e fun hm => by
    have q : (H b).isSome = true := (List.mem_filter.mp hm).2
    rw [n] at q; simp at q
theorem of_hidT {h : Heap} {H : Hp} {b : Addr} {o : Obj} (e : (hidT h H).get? b = some o) : h.get? b = some o ∧ H b = none := by
  have e' : h.get? b = some o := PySem.W.of_hideAll (trk h H) e
  refine ⟨e', ?_⟩
  cases q : H b with
  | none => rfl
  | some x =>
    have hm : b ∈ trk h H := List.mem_filter.mpr ⟨List.mem_range.mpr (Heap.lt_size e'), by simp [q]⟩
    have z : (hidT h H).get? b = none := PySem.W.hideAll_none (trk h H) hm
    rw [z] at e; cases e

/-! ### OpenK's ledger, filled with every new object but one -/
def allNews (g h : Heap) (L : Addr) : List (Addr × Obj) := (List.range h.objs.size).filterMap fun a => if a = L ∨ (g.get? a).isSome = true then none else (h.get? a).map fun o => (a, o)
def rest (g h : Heap) (L d : Addr) : List (Addr × Obj) := (allNews g h L).filter fun p => decide (p.1 ≠ d)
end L2

namespace L2
open PySem PySem.Spec PyProof.Rows

/-- the module's facts, over the base: the heap at the law's entry without what is tracked there -/
structure Mod (K : PySem.W.Frag) (mg : Str → Option Value) (base : Heap) : Prop where
  kin : K.In base
  glob : base.Ns mainGlobals mg
  blt : ∃ mb, base.Ns builtinsNs mb ∧ ∀ x : Str, x ≠ "__name__" → mb x = bootBuiltins x
  nolimit : base.NoLimit

/-- the context: a def's body (or a comprehension's block) running. base: fixed through the whole law; s₀, H₀: the entry; outer: the frames whose slots others may change (a def's callers); stack: all frames that run;
   ex: iterators that were made ahead of the entry and are walked here (a comprehension's); fn: the names whose cells were made at the entry (a def: all; a comprehension's block: its own); calm: not within an except suite; pn: pins that every state bears; xe: what is wanted of an exception that leaves the code -/
structure Cx where
  prog : Program
  w : World
  K : PySem.W.Frag
  mg : Str → Option Value
  base : Heap
  A : Around
  N : List Str
  s₀ : Shared
  H₀ : Hp
  env : Env
  outer : List Env
  stack : List Env
  ex : List Addr
  fn : Str → Bool
  calm : Bool
  pn : List (Addr × Obj)
  xe : Value → Shared → Prop
/-- the callers' frames -/
def frs (l : List Env) : List Addr := l.filterMap (·.frame)
abbrev Cx.fs (X : Cx) : List Addr := frs X.outer

def Vis (sc : Scope) (x : Str) : Prop := sc.names.lookup x = some .local ∨ sc.names.lookup x = some .cell ∨ sc.names.lookup x = some .free
def Loc (sc : Scope) (x : Str) : Prop := sc.names.lookup x = some .local ∨ sc.names.lookup x = some .cell
def Look (env : Env) (h : Heap) (m : Str → Option Value) (x : Str) (u : Value) : Prop :=
  (env.kindOf x = some .local ∧ m x = some u) ∨ ((env.kindOf x = some .cell ∨ env.kindOf x = some .free) ∧ ∃ c, env.cells.lookup x = some c ∧ h.IsCell c (some u))

structure Cx.Ok (X : Cx) : Prop where
  mod : Mod X.K X.mg X.base
  kind : X.env.scope.kind = .function
  glob : X.env.globals = mainGlobals
  blt : X.env.builtins = builtinsNs
  above : X.s₀.heap.objs.size ≤ X.env.locals
  inj : ∀ x y c, X.env.cells.lookup x = some c → X.env.cells.lookup y = some c → x = y
  has : ∀ x, (X.env.kindOf x = some .cell ∨ X.env.kindOf x = some .free) → ∃ c, X.env.cells.lookup x = some c
  cab : ∀ x c, X.fn x = true → X.env.cells.lookup x = some c → X.s₀.heap.objs.size ≤ c
  hd : X.calm = true → X.A.handled = none
  frames : X.A.frames = some X.stack
  stk : X.stack = X.outer ∨ (X.stack = X.env :: X.outer ∧ X.env.frame = some X.env.locals)
  exf : ∀ b ∈ X.ex, b ≠ X.env.locals ∧ ∀ x c, X.env.cells.lookup x = some c → c ≠ b
  bs : ∀ b o, X.base.get? b = some o → X.s₀.heap.get? b = some o ∧ X.H₀ b = none
  bsz : X.base.objs.size ≤ X.s₀.heap.objs.size
  noex : ∀ b o, X.base.get? b = some o → b ∉ X.ex
  exfs : ∀ b ∈ X.ex, b ∉ X.fs
  funs : X.s₀.heap.FunFrames X.base X.outer
  frf : ∀ b ∈ X.fs, X.H₀ b = none

structure Inv (X : Cx) (pins : List (Addr × Obj)) (σ : List (Option V)) (H : Hp) (s : Shared) : Prop where
  ok : X.Ok
  os : s.os = X.s₀.os
  bare : AllBare s.gens
  base : Un X.fs X.ex X.H₀ H X.s₀.heap s.heap
  loc : ∃ m, s.heap.Ns X.env.locals m ∧ ∀ (i : Nat) (x : Str) (v : V), X.N[i]? = some x → σ[i]? = some (some v) → Vis X.env.scope x → ∃ u, RelV v u ∧ Look X.env s.heap m x u
  cell : ∀ x c, X.env.cells.lookup x = some c → ∃ v, s.heap.IsCell c v
  free : H X.env.locals = none
  freeC : ∀ x c, X.env.cells.lookup x = some c → H c = none
  pin : ∀ p ∈ X.pn ++ pins, s.heap.get? p.1 = some p.2 ∧ H p.1 = none ∧ p.1 ≠ X.env.locals ∧ p.1 ∉ X.fs ∧ ∀ v, p.2.data ≠ .cell v
  hok : HOk X.prog X.w H s.heap
  len : σ.length = X.N.length

section
variable {X : Cx} {pins : List (Addr × Obj)} {σ : List (Option V)} {H H' : Hp} {s : Shared} {h' : Heap}

theorem Cx.Ok.nofr (ok : X.Ok) {b : Addr} {o : Obj} (e : X.base.get? b = some o) : b ∉ X.fs := fun hb => by
  have := (ok.funs.mem hb).1
  rw [e] at this; cases this
theorem Inv.bs (I : Inv X pins σ H s) : ∀ b o, X.base.get? b = some o → s.heap.get? b = some o ∧ H b = none := fun b o e =>
  ⟨I.base.keep b o (I.ok.bs b o e).1 (I.ok.bs b o e).2 (I.ok.nofr e) (I.ok.noex b o e), I.base.free b o (I.ok.bs b o e).1 (I.ok.bs b o e).2 (I.ok.noex b o e)⟩
theorem Inv.bk (I : Inv X pins σ H s) : ∀ b o, X.base.get? b = some o → s.heap.get? b = some o := fun b o e => (I.bs b o e).1
theorem Inv.mod (I : Inv X pins σ H s) : Mod X.K X.mg X.base := I.ok.mod
theorem Inv.kIn (I : Inv X pins σ H s) : X.K.In s.heap := I.ok.mod.kin.keeps I.bk
/-- the frame over the base: for OpenK's rules (K.In X.base is I.mod.kin) -/
theorem Inv.fr (I : Inv X pins σ H s) : ∃ m, Fr X.base X.env.locals s.heap m :=
  let ⟨m, hn, _⟩ := I.loc
  ⟨m, hn, I.bk, Nat.le_trans I.ok.bsz I.ok.above⟩
theorem Inv.lt (I : Inv X pins σ H s) : X.env.locals < s.heap.objs.size := let ⟨_, hn, _⟩ := I.loc; hn.lt
theorem Inv.sz (I : Inv X pins σ H s) : X.s₀.heap.objs.size ≤ s.heap.objs.size := Nat.le_trans I.ok.above (Nat.le_of_lt I.lt)
theorem Inv.nofs (I : Inv X pins σ H s) {a : Addr} (h : s.heap.objs.size ≤ a) : a ∉ X.fs := fun hb => by
  obtain ⟨_, o, ho, _⟩ := I.ok.funs.mem hb
  exact absurd (Nat.lt_of_lt_of_le (Heap.lt_size ho) (Nat.le_trans I.sz h)) (Nat.lt_irrefl _)
theorem Inv.cne (I : Inv X pins σ H s) : ∀ x c, X.env.cells.lookup x = some c → c ≠ X.env.locals := fun x c e z => by
  obtain ⟨v, o, ho, hd⟩ := I.cell x c e
  obtain ⟨m, ⟨o', es, ep, ho', hd', _⟩, _⟩ := I.loc
  rw [z, ho'] at ho; cases ho; rw [hd'] at hd; cases hd
theorem Inv.funs (I : Inv X pins σ H s) : s.heap.FunFrames X.base X.outer := by
  have all : ∀ (l : List Env), (∀ b ∈ frs l, b ∈ X.fs) → X.s₀.heap.FunFrames X.base l → s.heap.FunFrames X.base l := by
    intro l
    induction l with
    | nil => intro _ _; trivial
    | cons env r ih =>
      intro hs hl
      obtain ⟨hk, ⟨L, o, hf, hn, ho, hd⟩, hr⟩ := hl
      have hL : L ∈ X.fs := hs L (by unfold frs; rw [List.filterMap_cons, hf]; exact List.mem_cons_self)
      obtain ⟨sl, e⟩ := I.base.slot L o ho (I.ok.frf L hL) hL fun z => I.ok.exfs L z hL
      exact ⟨hk, ⟨L, _, hf, hn, e, hd⟩, ih (fun b hb => hs b (by unfold frs; rw [List.filterMap_cons, hf]; exact List.mem_cons_of_mem _ hb)) hr⟩
  exact all X.outer (fun _ hb => hb) I.ok.funs

/-- the frames that run, for a call -/
theorem Inv.stack (I : Inv X pins σ H s) : s.heap.FunFrames X.base X.stack := by
  rcases I.ok.stk with e | ⟨e, hf⟩
  · rw [e]; exact I.funs
  · rw [e]
    obtain ⟨m, hn, _⟩ := I.loc
    refine .cons (by rw [I.ok.kind]; decide) hf hn ?_ I.funs
    exact Heap.get?_none_of_le (Nat.le_trans I.ok.bsz I.ok.above)
theorem Inv.stkSub (I : Inv X pins σ H s) : ∀ b ∈ frs X.stack, b ∈ X.env.locals :: X.fs := fun b hb => by
  rcases I.ok.stk with e | ⟨e, hf⟩
  · rw [e] at hb; exact List.mem_cons_of_mem _ hb
  · rw [e] at hb
    unfold frs at hb
    rw [List.filterMap_cons, hf] at hb
    exact hb
theorem Inv.stkFree (I : Inv X pins σ H s) : ∀ b ∈ frs X.stack, H b = none := fun b hb => by
  rcases List.mem_cons.mp (I.stkSub b hb) with e | hb
  · rw [e]; exact I.free
  · obtain ⟨_, o, ho, _⟩ := I.ok.funs.mem hb
    exact I.base.free b o ho (I.ok.frf b hb) fun z => I.ok.exfs b z hb

/-- THE STEP: the untracked objects but the frame and the records at ch are kept (the callers' frames up to slots), the frame's map is kept, the new abstract heap is held -/
theorem Inv.step {g' : Array GenState} {t' : Nat} {d' : Drawn} {ch : List Addr} (I : Inv X pins σ H s)
    (hch : ∀ b ∈ ch, (b ∈ X.ex ∨ X.s₀.heap.objs.size ≤ b) ∧ b ≠ X.env.locals ∧ (∀ x c, X.env.cells.lookup x = some c → c ≠ b) ∧ ∀ p ∈ X.pn ++ pins, p.1 ≠ b)
    (keep : ∀ b o, b ≠ X.env.locals → b ∉ X.fs → b ∉ ch → s.heap.get? b = some o → H b = none → h'.get? b = some o)
    (slot : ∀ b o, b ≠ X.env.locals → b ∈ X.fs → b ∉ ch → s.heap.get? b = some o → H b = none → ∃ sl, h'.get? b = some { o with slots := sl }) (free : ∀ b o, b ∉ ch → s.heap.get? b = some o → H b = none → H' b = none)
    (there : ∀ b o, b ∉ ch → s.heap.get? b = some o → ∃ o', h'.get? b = some o')
    (tups : ∀ b xs, H b = some (.tup xs) → H' b = some (.tup xs)) (frzs : ∀ b o u, H b = some (.frz o u) → H' b = some (.frz o u)) (tbls : ∀ b ps, H b = some (.tbl ps) → ∃ more, H' b = some (.tbl (ps ++ more)))
    (ns : ∀ m, s.heap.Ns X.env.locals m → h'.Ns X.env.locals m) (hok : HOk X.prog X.w H' h') (hg : AllBare g') :
    Inv X pins σ H' { s with heap := h', gens := g', drawn := d', toks := t' } := by
  have neL : ∀ b o, X.s₀.heap.get? b = some o → b ≠ X.env.locals := fun b o e => Nat.ne_of_lt (Nat.lt_of_lt_of_le (Heap.lt_size e) I.ok.above)
  have neC : ∀ b o, X.s₀.heap.get? b = some o → b ∉ X.ex → b ∉ ch := fun b o e hx hb => by
    rcases (hch b hb).1 with z | z
    · exact hx z
    · exact absurd (Nat.lt_of_lt_of_le (Heap.lt_size e) z) (Nat.lt_irrefl _)
  have cellK : ∀ x c, X.env.cells.lookup x = some c → ∀ v, s.heap.IsCell c v → h'.IsCell c v := fun x c e v ⟨o, ho, hd⟩ => by
    have nch : c ∉ ch := fun z => (hch c z).2.2.1 x c e rfl
    by_cases hc : c ∈ X.fs
    · obtain ⟨sl, q⟩ := slot c o (I.cne x c e) hc nch ho (I.freeC x c e)
      exact ⟨_, q, hd⟩
    · exact ⟨o, keep c o (I.cne x c e) hc nch ho (I.freeC x c e), hd⟩
  refine ⟨I.ok, I.os, hg, ⟨fun b o e n hb hx => ?_, fun b o e n hb hx => ?_, fun b o e n hx => ?_, fun b o e hx => ?_, fun b xs e => tups b xs (I.base.tups b xs e), fun b o xs e => frzs b o xs (I.base.frzs b o xs e), fun b ps e => ?_⟩, ?_, fun x c e => ?_, ?_, fun x c e => ?_, fun p hp => ?_, hok, I.len⟩
  · exact keep b o (neL b o e) hb (neC b o e hx) (I.base.keep b o e n hb hx) (I.base.free b o e n hx)
  · obtain ⟨sl, e1⟩ := I.base.slot b o e n hb hx
    obtain ⟨sl', e2⟩ := slot b _ (neL b o e) hb (neC b o e hx) e1 (I.base.free b o e n hx)
    exact ⟨sl', e2⟩
  · obtain ⟨o', e1⟩ := I.base.there b o e hx
    exact free b o' (neC b o e hx) e1 (I.base.free b o e n hx)
  · obtain ⟨o', e1⟩ := I.base.there b o e hx
    exact there b o' (neC b o e hx) e1
  · obtain ⟨m1, e1⟩ := I.base.tbls b ps e
    obtain ⟨m2, e2⟩ := tbls b _ e1
    exact ⟨m1 ++ m2, by rw [e2, Array.append_assoc]⟩
  · obtain ⟨m, hn, hl⟩ := I.loc
    refine ⟨m, ns m hn, fun i x v e1 e2 e3 => ?_⟩
    obtain ⟨u, r, l⟩ := hl i x v e1 e2 e3
    refine ⟨u, r, ?_⟩
    rcases l with l | ⟨k, c, e, z⟩
    · exact .inl l
    · exact .inr ⟨k, c, e, cellK x c e _ z⟩
  · obtain ⟨v, z⟩ := I.cell x c e
    exact ⟨v, cellK x c e v z⟩
  · obtain ⟨m, ⟨o, _, _, ho, _⟩, _⟩ := I.loc
    exact free _ o (fun z => (hch _ z).2.1 rfl) ho I.free
  · obtain ⟨v, o, ho, hd⟩ := I.cell x c e
    exact free c o (fun z => (hch c z).2.2.1 x c e rfl) ho (I.freeC x c e)
  · obtain ⟨e, n, ne, nf, d⟩ := I.pin p hp
    have nch : p.1 ∉ ch := fun z => (hch p.1 z).2.2.2 p hp rfl
    exact ⟨keep p.1 p.2 ne nf nch e n, free p.1 p.2 nch e n, ne, nf, d⟩
/-- .. where the frame's own object is kept too -/
theorem Inv.un {t' : Nat} (I : Inv X pins σ H s) (u : Un X.fs [] H H' s.heap h') (hok : HOk X.prog X.w H' h') : Inv X pins σ H' { s with heap := h', toks := t' } := by
  obtain ⟨m, ⟨o, es, ep, ho, r⟩, _⟩ := id I.loc
  obtain ⟨sl, hL⟩ := u.any ho I.free (by simp)
  exact I.step (g' := s.gens) (d' := s.drawn) (ch := []) (fun _ z => nomatch z) (fun b o _ hb _ e n => u.keep b o e n hb (by simp)) (fun b o _ hb _ e n => u.slot b o e n hb (by simp)) (fun b o _ e n => u.free b o e n (by simp)) (fun b o _ e => u.there b o e (by simp)) u.tups u.frzs u.tbls (fun m' hm => by
    obtain ⟨o', es', ep', ho', r'⟩ := hm
    rw [ho] at ho'; cases ho'
    exact ⟨_, es', ep', hL, r'⟩) hok I.bare
/-- behind a call (or a comprehension's block): the slots of this frame may have changed too, the records at ch may have turned -/
theorem Inv.call {g' : Array GenState} {t' : Nat} {d' : Drawn} {ch : List Addr} (I : Inv X pins σ H s) (u : Un (frs X.stack) ch H H' s.heap h') (hok : HOk X.prog X.w H' h') (hg : AllBare g')
    (hch : ∀ b ∈ ch, (b ∈ X.ex ∨ X.s₀.heap.objs.size ≤ b) ∧ b ≠ X.env.locals ∧ (∀ x c, X.env.cells.lookup x = some c → c ≠ b) ∧ ∀ p ∈ X.pn ++ pins, p.1 ≠ b) :
    Inv X pins σ H' { s with heap := h', gens := g', drawn := d', toks := t' } := by
  obtain ⟨m, ⟨o, es, ep, ho, r⟩, _⟩ := id I.loc
  obtain ⟨sl, hL⟩ := u.any ho I.free fun z => (hch _ z).2.1 rfl
  exact I.step (ch := ch) hch (fun b o hL hb hc e n => u.keep b o e n (fun z => (List.mem_cons.mp (I.stkSub b z)).elim hL hb) hc) (fun b o _ _ hc e n => u.any e n hc) (fun b o hc e n => u.free b o e n hc) (fun b o hc e => u.there b o e hc) u.tups u.frzs u.tbls (fun m' hm => by
    obtain ⟨o', es', ep', ho', r'⟩ := hm
    rw [ho] at ho'; cases ho'
    exact ⟨_, es', ep', hL, r'⟩) hok hg
/-- an untracked record of ours (an iterator) has turned -/
theorem Inv.turned {t' : Nat} {it : Addr} (I : Inv X pins σ H s) (k : ∀ b o, b ≠ it → s.heap.get? b = some o → h'.get? b = some o) (hn : H it = none) (hL : it ≠ X.env.locals)
    (h1 : it ∈ X.ex ∨ X.s₀.heap.objs.size ≤ it) (h2 : ∀ x c, X.env.cells.lookup x = some c → c ≠ it) (h3 : ∀ p ∈ X.pn ++ pins, p.1 ≠ it) : Inv X pins σ H { s with heap := h', toks := t' } := by
  have nit : ∀ b u, H b = some u → b ≠ it := fun b u e z => by rw [z, hn] at e; cases e
  refine I.step (g' := s.gens) (d' := s.drawn) (ch := [it]) (fun b hb => ?_) (fun b o _ _ hc e _ => k b o (fun z => hc (by simp [z])) e) (fun b o _ _ hc e _ => ⟨o.slots, k b o (fun z => hc (by simp [z])) e⟩) (fun _ _ _ _ n => n)
    (fun b o hc e => ⟨o, k b o (fun z => hc (by simp [z])) e⟩) (fun _ _ e => e) (fun _ _ _ e => e) (fun b ps e => ⟨#[], by rw [e]; simp⟩) (fun m hm => ?_) (fun b u e => ?_) I.bare
  · have e : b = it := by simpa using hb
    subst e
    exact ⟨h1, hL, h2, h3⟩
  · obtain ⟨o, es, ep, ho, r⟩ := hm
    exact ⟨o, es, ep, k _ o (Ne.symm hL) ho, r⟩
  · refine (I.hok b u e).stay (fun c v hc q => k c v ?_ q) (fun _ q => q) fun _ _ q => q
    rcases hc with z | z
    · rw [z]; exact nit b u e
    · exact nit c _ z
theorem Inv.tok (I : Inv X pins σ H s) (t : Nat) : Inv X pins σ H { s with toks := t } := I.un (h' := s.heap) (t' := t) Un.refl I.hok
/-- all objects kept -/
theorem Inv.kept {t' : Nat} (I : Inv X pins σ H s) (k : ∀ b u, s.heap.get? b = some u → h'.get? b = some u) : Inv X pins σ H { s with heap := h', toks := t' } := I.un (Un.kept k) (I.hok.kept k)
/-- a new object laid and tracked -/
theorem Inv.laid {a : Addr} {o : HO} {t' : Nat} (I : Inv X pins σ H s) (k : ∀ b u, s.heap.get? b = some u → h'.get? b = some u) (hp : s.heap.objs.size ≤ a) (new : ObjOk X.prog X.w (upd H a o) h' a o) :
    Inv X pins σ (upd H a o) { s with heap := h', toks := t' } := I.un (Un.laid k hp (I.hok.fresh hp)) (I.hok.laid k hp new)
/-- an object written -/
theorem Inv.write {x e : Addr} {o : HO} {t' : Nat} (I : Inv X pins σ H s) (mu : Mut (H x)) (he : e = x ∨ H e = some (.own x)) (k : ∀ b u, b ≠ e → s.heap.get? b = some u → h'.get? b = some u) (heo : ∃ u, h'.get? e = some u)
    (new : ObjOk X.prog X.w (upd H x o) h' x o) : Inv X pins σ (upd H x o) { s with heap := h', toks := t' } := I.un (Un.write mu he k heo) (I.hok.write mu he k heo new)
/-- forgetting slots, pins -/
theorem Inv.weak {σ' : List (Option V)} (I : Inv X pins σ H s) (hl : σ'.length = σ.length) (w : ∀ (i : Nat) v, σ'[i]? = some (some v) → σ[i]? = some (some v)) : Inv X pins σ' H s :=
  ⟨I.ok, I.os, I.bare, I.base, let ⟨m, hn, hl'⟩ := I.loc; ⟨m, hn, fun i x v e1 e2 e3 => hl' i x v e1 (w i v e2) e3⟩, I.cell, I.free, I.freeC, I.pin, I.hok, hl.trans I.len⟩
theorem Inv.pins_of {pins' : List (Addr × Obj)} (I : Inv X pins σ H s) (h : ∀ p ∈ pins', s.heap.get? p.1 = some p.2 ∧ H p.1 = none ∧ p.1 ≠ X.env.locals ∧ p.1 ∉ X.fs ∧ ∀ v, p.2.data ≠ .cell v) : Inv X pins' σ H s :=
  ⟨I.ok, I.os, I.bare, I.base, I.loc, I.cell, I.free, I.freeC, fun p hp => (List.mem_append.mp hp).elim (fun z => I.pin p (List.mem_append_left _ z)) (h p), I.hok, I.len⟩

theorem nodup_ix {N : List Str} (hN : N.Nodup) {i j : Nat} {x : Str} (a : N[i]? = some x) (b : N[j]? = some x) : i = j := by
  obtain ⟨h1, e1⟩ := List.getElem?_eq_some_iff.mp a
  obtain ⟨h2, e2⟩ := List.getElem?_eq_some_iff.mp b
  exact (List.getElem_inj hN).mp (e1.trans e2.symm)

/-- a name is stored; what changed -/
theorem store_ok2 {M : Model} {A : Around} {E : Value → Shared → Prop} {i : Nat} {x : Str} {v : V} {u : Value} {Q : Unit → Shared → Prop} (I : Inv X pins σ H s) (hN : X.N.Nodup) (hi : X.N[i]? = some x) (hx : Loc X.env.scope x) (r : RelV v u)
    (h : ∀ s', Inv X pins (σ.set i (some v)) H s' → (∃ a, Heap.SameBut a s.heap s'.heap ∧ (a = X.env.locals ∨ X.env.cells.lookup x = some a)) → Q () s') (hf : X.fn x = true ∨ X.env.scope.names.lookup x = some .local := by first | exact .inl rfl | exact .inr rfl | assumption) : wpAny M A (storeName X.env x u) Q E s := by
  obtain ⟨m, hn, hl⟩ := id I.loc
  have hcls : (X.env.scope.kind == .class || (X.env.scope.kind == .module && X.env.locals != X.env.globals)) = false := by rw [I.ok.kind]; rfl
  have hiσ : i < σ.length := by rw [I.len]; exact (List.getElem?_eq_some_iff.mp hi).1
  have cne := I.cne
  have tracked : ∀ {a : Addr} {h' : Heap}, (∃ o, s.heap.get? a = some o ∧ H a = none) → Heap.SameBut a s.heap h' → HOk X.prog X.w H h' := fun {a h'} ha hs b ob e => by
    obtain ⟨_, _, hfree⟩ := ha
    refine (I.hok b ob e).stay (fun c w' hc q => (hs.2 c ?_).trans q) (fun _ q => q) fun _ _ q => q
    rintro rfl
    rcases hc with rfl | hc
    · rw [hfree] at e; cases e
    · rw [hfree] at hc; cases hc
  rcases hx with hk | hk
  · refine wpAny_storeName_local hk hn (fun h' hn' hs => ?_) hcls
    obtain ⟨oL, _, _, hoL, _⟩ := id hn
    refine h _ ⟨I.ok, I.os, I.bare, ⟨fun b o e n hb hx => ?_, fun b o e n hb hx => ?_, I.base.free, fun b o e hx => ?_, I.base.tups, I.base.frzs, I.base.tbls⟩, ⟨_, hn', fun j y v' e1 e2 e3 => ?_⟩, fun y c e => ?_, I.free, I.freeC, fun p hp => ?_, tracked ⟨oL, hoL, I.free⟩ hs, by simpa using I.len⟩ ⟨_, hs, .inl rfl⟩
    · exact (hs.2 b (Nat.ne_of_lt (Nat.lt_of_lt_of_le (Heap.lt_size e) I.ok.above))).trans (I.base.keep b o e n hb hx)
    · obtain ⟨sl, e1⟩ := I.base.slot b o e n hb hx
      exact ⟨sl, (hs.2 b (Nat.ne_of_lt (Nat.lt_of_lt_of_le (Heap.lt_size e) I.ok.above))).trans e1⟩
    · obtain ⟨o', e1⟩ := I.base.there b o e hx
      exact ⟨o', (hs.2 b (Nat.ne_of_lt (Nat.lt_of_lt_of_le (Heap.lt_size e) I.ok.above))).trans e1⟩
    · by_cases hj : j = i
      · subst hj
        rw [hi] at e1; cases e1
        rw [List.getElem?_set_self hiσ] at e2
        cases e2
        exact ⟨u, r, .inl ⟨hk, by simp⟩⟩
      · rw [List.getElem?_set_ne (Ne.symm hj)] at e2
        obtain ⟨u', r', q⟩ := hl j y v' e1 e2 e3
        refine ⟨u', r', ?_⟩
        rcases q with ⟨k, e⟩ | ⟨k, c, e, z⟩
        · refine .inl ⟨k, ?_⟩
          have : y ≠ x := fun e => hj (nodup_ix hN e1 (e ▸ hi))
          simp [this, e]
        · exact .inr ⟨k, c, e, z.sameBut hs (cne y c e)⟩
    · obtain ⟨w', z⟩ := I.cell y c e
      exact ⟨w', z.sameBut hs (cne y c e)⟩
    · obtain ⟨e, n, ne, nf, d⟩ := I.pin p hp
      exact ⟨(hs.2 p.1 ne).trans e, n, ne, nf, d⟩
  · have hfn : X.fn x = true := by
      rcases hf with z | z
      · exact z
      · rw [z] at hk; cases hk
    obtain ⟨c, hc⟩ := I.ok.has x (.inl hk)
    obtain ⟨w', z⟩ := I.cell x c hc
    refine wpAny_storeName_cell I.ok.kind hk hc z (fun h' hc' hs => ?_)
    obtain ⟨oc, hoc, hocd⟩ := id z
    refine h { s with heap := h' } ⟨I.ok, I.os, I.bare, ⟨fun b o e n hb hx => ?_, fun b o e n hb hx => ?_, I.base.free, fun b o e hx => ?_, I.base.tups, I.base.frzs, I.base.tbls⟩, ⟨m, hn.sameBut hs (Ne.symm (cne x c hc)), fun j y v' e1 e2 e3 => ?_⟩, fun y c' e => ?_, I.free, I.freeC, fun p hp => ?_, tracked ⟨oc, hoc, I.freeC x c hc⟩ hs, by simpa using I.len⟩ ⟨c, hs, .inr hc⟩
    · exact (hs.2 b (Nat.ne_of_lt (Nat.lt_of_lt_of_le (Heap.lt_size e) (I.ok.cab x c hfn hc)))).trans (I.base.keep b o e n hb hx)
    · obtain ⟨sl, e1⟩ := I.base.slot b o e n hb hx
      exact ⟨sl, (hs.2 b (Nat.ne_of_lt (Nat.lt_of_lt_of_le (Heap.lt_size e) (I.ok.cab x c hfn hc)))).trans e1⟩
    · obtain ⟨o', e1⟩ := I.base.there b o e hx
      exact ⟨o', (hs.2 b (Nat.ne_of_lt (Nat.lt_of_lt_of_le (Heap.lt_size e) (I.ok.cab x c hfn hc)))).trans e1⟩
    · by_cases hj : j = i
      · subst hj
        rw [hi] at e1; cases e1
        rw [List.getElem?_set_self hiσ] at e2
        cases e2
        exact ⟨u, r, .inr ⟨.inl hk, c, hc, hc'⟩⟩
      · rw [List.getElem?_set_ne (Ne.symm hj)] at e2
        obtain ⟨u', r', q⟩ := hl j y v' e1 e2 e3
        refine ⟨u', r', ?_⟩
        rcases q with q | ⟨k, c', e, z'⟩
        · exact .inl q
        · refine .inr ⟨k, c', e, z'.sameBut hs ?_⟩
          rintro rfl
          exact hj (nodup_ix hN e1 (I.ok.inj _ _ _ e hc ▸ hi))
    · by_cases hcc : c' = c
      · subst hcc; exact ⟨_, hc'⟩
      · obtain ⟨w2, z2⟩ := I.cell y c' e
        exact ⟨w2, z2.sameBut hs hcc⟩
    · obtain ⟨e, n, ne, nf, d⟩ := I.pin p hp
      refine ⟨(hs.2 p.1 ?_).trans e, n, ne, nf, d⟩
      intro q
      rw [q, hoc] at e
      have q' : oc = p.2 := Option.some.inj e
      exact d w' (by rw [← q']; exact hocd)
theorem store_ok {M : Model} {A : Around} {E : Value → Shared → Prop} {i : Nat} {x : Str} {v : V} {u : Value} {Q : Unit → Shared → Prop} (I : Inv X pins σ H s) (hN : X.N.Nodup) (hi : X.N[i]? = some x) (hx : Loc X.env.scope x) (r : RelV v u)
    (h : ∀ s', Inv X pins (σ.set i (some v)) H s' → Q () s') (hf : X.fn x = true ∨ X.env.scope.names.lookup x = some .local := by first | exact .inl rfl | exact .inr rfl | assumption) : wpAny M A (storeName X.env x u) Q E s :=
  store_ok2 I hN hi hx r (fun s' I' _ => h s' I') hf
/-- behind a call or a block, the state as it is -/
theorem Inv.call' {s' : Shared} {ch : List Addr} (I : Inv X pins σ H s) (ho : s'.os = s.os) (u : Un (frs X.stack) ch H H' s.heap s'.heap) (hok : HOk X.prog X.w H' s'.heap) (hg : AllBare s'.gens)
    (hch : ∀ b ∈ ch, (b ∈ X.ex ∨ X.s₀.heap.objs.size ≤ b) ∧ b ≠ X.env.locals ∧ (∀ x c, X.env.cells.lookup x = some c → c ≠ b) ∧ ∀ p ∈ X.pn ++ pins, p.1 ≠ b) : Inv X pins σ H' s' := by
  obtain ⟨h', g', d', t', o'⟩ := s'
  have e : o' = s.os := ho
  subst e
  exact I.call (g' := g') (t' := t') (d' := d') u hok hg hch
end

/-! ### the judgements -/
/-- an exception: its class, its own dict's address (where it has one), the abstract heap behind it -/
abbrev XK := Value → Option Addr → Hp → Prop
abbrev St := List (Option V)
abbrev VK := V → Hp → Prop
/-- an expression's reading; a test's; an argument list's -/
abbrev TE := St → Hp → VK → Prop
abbrev TT := St → Hp → (Bool → Hp → Prop) → Prop
abbrev TA := St → Hp → (List V → Hp → Prop) → Prop
/-- what is wanted behind a statement -/
structure Ends where
  nx : St → Hp → Prop
  rt : VK
  bk : St → Hp → Prop := fun _ _ => False
  ct : St → Hp → Prop := fun _ _ => False
abbrev TS := Ends → St → Hp → Prop

def EP (X : Cx) (pins : List (Addr × Obj)) (σ : St) (Q : VK) (u : Value) (s' : Shared) : Prop := ∃ v H', Inv X pins σ H' s' ∧ RelV v u ∧ Q v H'
def TP (X : Cx) (pins : List (Addr × Obj)) (σ : St) (Q : Bool → Hp → Prop) (b : Bool) (s' : Shared) : Prop := ∃ H', Inv X pins σ H' s' ∧ Q b H'
def AP (X : Cx) (pins : List (Addr × Obj)) (σ : St) (Q : List V → Hp → Prop) (us : List Value) (s' : Shared) : Prop := ∃ vs H', Inv X pins σ H' s' ∧ Vals vs us ∧ Q vs H'
def SP (X : Cx) (pins : List (Addr × Obj)) (D : Ends) (f : Flow) (s' : Shared) : Prop :=
  match f with
  | .next => ∃ σ' H', Inv X pins σ' H' s' ∧ D.nx σ' H'
  | .brk => ∃ σ' H', Inv X pins σ' H' s' ∧ D.bk σ' H'
  | .cont => ∃ σ' H', Inv X pins σ' H' s' ∧ D.ct σ' H'
  | .ret u => ∃ v σ' H', Inv X pins σ' H' s' ∧ RelV v u ∧ D.rt v H'

def PE (X : Cx) (e : Expr) (t : TE) : Prop :=
  ∀ (pins : List (Addr × Obj)) (s : Shared) (σ : St) (H : Hp) (Q : VK), Inv X pins σ H s → t σ H Q → wpAny (model X.prog X.w) X.A (eval e X.env) (EP X pins σ Q) X.xe s
def PT (X : Cx) (e : Expr) (t : TT) : Prop :=
  ∀ (pins : List (Addr × Obj)) (s : Shared) (σ : St) (H : Hp) (Q : Bool → Hp → Prop), Inv X pins σ H s → t σ H Q → wpAny (model X.prog X.w) X.A (isTrue e X.env (eval e X.env)) (TP X pins σ Q) X.xe s
/-- a test whatever its 'whole' is (and, or) -/
def PW (X : Cx) (e : Expr) (t : TT) : Prop :=
  ∀ (whole : Sem Value) (pins : List (Addr × Obj)) (s : Shared) (σ : St) (H : Hp) (Q : Bool → Hp → Prop), Inv X pins σ H s → t σ H Q → wpAny (model X.prog X.w) X.A (isTrue e X.env whole) (TP X pins σ Q) X.xe s
theorem PW.pt {X : Cx} {e : Expr} {t : TT} (h : PW X e t) : PT X e t := h _
/-- an argument list (no star), from the left -/
def PA (X : Cx) (es : List Expr) (t : TA) : Prop :=
  ∀ (pos : Pos) (pins : List (Addr × Obj)) (s : Shared) (σ : St) (H : Hp) (Q : List V → Hp → Prop), Inv X pins σ H s → t σ H Q → wpAny (model X.prog X.w) X.A (spliced (backTo pos (starEach es X.env))) (AP X pins σ Q) X.xe s
def PS (X : Cx) (st : Stmt) (t : TS) : Prop :=
  ∀ (pins : List (Addr × Obj)) (s : Shared) (σ : St) (H : Hp) (D : Ends), Inv X pins σ H s → t D σ H → wpAny (model X.prog X.w) X.A (exec st X.env) (SP X pins D) X.xe s
def PSs (X : Cx) (st : List Stmt) (t : TS) : Prop :=
  ∀ (pins : List (Addr × Obj)) (s : Shared) (σ : St) (H : Hp) (D : Ends), Inv X pins σ H s → t D σ H → wpAny (model X.prog X.w) X.A (execs st X.env) (SP X pins D) X.xe s
/-- weaken the end -/
theorem thn {α : Type} {t : Sem α} {Q Q' : α → Shared → Prop} {M : Model} {A : Around} {E : Value → Shared → Prop} {s : Shared} (h : wpAny M A t Q E s) (hQ : ∀ a s, Q a s → Q' a s) : wpAny M A t Q' E s := wpAny_mono h hQ fun _ _ x => x
end L2

namespace L2
open PySem PySem.Spec PyProof.Rows
section
variable {X : Cx}

/-- two expressions in a row -/
theorem bin {a b : Expr} {ta tb : TE} (ha : PE X a ta) (hb : PE X b tb) {pins : List (Addr × Obj)} {s : Shared} {σ : St} {H : Hp} {R : V → V → Hp → Prop} (I : Inv X pins σ H s) (h : ta σ H fun x H1 => tb σ H1 fun y H2 => R x y H2)
    {α : Type} {Q : α → Shared → Prop} {f : Value → Value → Sem α}
    (hf : ∀ v u s2 x y H2, Inv X pins σ H2 s2 → RelV x v → RelV y u → R x y H2 → wpAny (model X.prog X.w) X.A (f v u) Q X.xe s2) :
    wpAny (model X.prog X.w) X.A (eval a X.env) (fun v s₁ => wpAny (model X.prog X.w) X.A (eval b X.env) (fun u s₂ => wpAny (model X.prog X.w) X.A (f v u) Q X.xe s₂) X.xe s₁) X.xe s := by
  refine thn (ha pins s σ H _ I h) fun v s1 ⟨x, H1, I1, r1, q1⟩ => ?_
  refine thn (hb pins s1 σ H1 _ I1 q1) fun u s2 ⟨y, H2, I2, r2, q2⟩ => ?_
  exact hf v u s2 x y H2 I2 r1 r2 q2

/-! ### names and constants -/
def tVar (i : Nat) : TE := fun σ H Q => ∃ v, σ[i]? = some (some v) ∧ Q v H
def tC (v : V) : TE := fun _ H Q => Q v H
theorem pe_var {i : Nat} {x : Str} {pos : Pos} (hN : X.N[i]? = some x) (hv : Vis X.env.scope x) (hd : (x == ("__debug__" : Str)) = false := by decide) (hcd : (x == ("__classdict__" : Str)) = false := by decide) : PE X (.Name x pos) (tVar i) := by
  intro pins s σ H Q I h
  obtain ⟨v, e, h⟩ := h
  obtain ⟨m, hn, hl⟩ := I.loc
  obtain ⟨u, r, l⟩ := hl i x v hN e hv
  have fin : EP X pins σ Q u s := ⟨v, H, I, r, h⟩
  rcases l with ⟨hk, hm⟩ | ⟨hk, c, hc, hcell⟩
  · exact wpAny_Name (wpAny_loadName_local I.ok.kind hk hn hm fin) hd
  · rcases hk with hk | hk
    · exact wpAny_Name (wpAny_loadName_cell I.ok.kind hk hc hcell fin) hd
    · exact wpAny_Name (wpAny_loadName_free I.ok.kind hk hc hcell fin hcd) hd
theorem pe_int {i j pos} : PE X (.Constant (.int i) j pos) (tC (.int i)) := fun _ _ _ H _ I h => wpAny_Constant_int ⟨.int i, H, I.tok _, ⟨_, rfl⟩, h⟩
theorem pe_bl {b j pos} : PE X (.Constant (.bool b) j pos) (tC (.bl b)) := fun _ _ _ H _ I h => Constant_bool ⟨.bl b, H, I, rfl, h⟩
/-- a global name of the def -/
def Gl (X : Cx) (x : Str) : Prop := X.env.kindOf x = some .globalImplicit
theorem ld_glob {E : Value → Shared → Prop} {pins : List (Addr × Obj)} {s : Shared} {σ : St} {H : Hp} {x : Str} {u : Value} {pos : Pos} {Q : Value → Shared → Prop} (I : Inv X pins σ H s) (hg : Gl X x) (hm : X.mg x = some u) (h : Q u s)
    (hd : (x == ("__debug__" : Str)) = false := by decide) : wpAny (model X.prog X.w) X.A (eval (.Name x pos) X.env) Q E s :=
  Calls.Name_function_global I.ok.kind hg (Calls.loadGlobal_global (by rw [I.ok.glob]; exact I.mod.glob.keeps I.bk) hm h) hd
theorem ld_blt {E : Value → Shared → Prop} {pins : List (Addr × Obj)} {s : Shared} {σ : St} {H : Hp} {x : Str} {u : Value} {pos : Pos} {Q : Value → Shared → Prop} (I : Inv X pins σ H s) (hg : Gl X x) (hm : X.mg x = none) (hv : bootBuiltins x = some u) (h : Q u s)
    (hn : x ≠ "__name__" := by decide) (hd : (x == ("__debug__" : Str)) = false := by decide) : wpAny (model X.prog X.w) X.A (eval (.Name x pos) X.env) Q E s := by
  obtain ⟨mb, h1, h2⟩ := I.mod.blt
  exact Calls.Name_function_global I.ok.kind hg (Calls.loadGlobal_builtin (by rw [I.ok.glob]; exact I.mod.glob.keeps I.bk) hm (by rw [I.ok.blt]; exact h1.keeps I.bk) ((h2 x hn).trans hv) h) hd
/-- a module's constant, a class, a function, as a value -/
theorem pe_glob {x : Str} {v : V} {u : Value} {pos : Pos} (hg : Gl X x) (hm : X.mg x = some u) (r : RelV v u) (hd : (x == ("__debug__" : Str)) = false := by decide) : PE X (.Name x pos) (tC v) :=
  fun _ _ _ H _ I h => ld_glob I hg hm ⟨v, H, I, r, h⟩ hd
/-! ### arithmetic -/
/-- two ints -/
def t2I (ta tb : TE) (k : Int → Int → Hp → Prop) : St → Hp → Prop := fun σ H => ta σ H fun x H1 => tb σ H1 fun y H2 => ∃ i j, x = .int i ∧ y = .int j ∧ k i j H2
def tAdd (ta tb : TE) : TE := fun σ H Q => t2I ta tb (fun i j H2 => Q (.int (i + j)) H2) σ H
def tSub (ta tb : TE) : TE := fun σ H Q => t2I ta tb (fun i j H2 => Q (.int (i - j)) H2) σ H
/-- the left factor below 2^64 -/
def tMul (ta tb : TE) : TE := fun σ H Q => t2I ta tb (fun i j H2 => (-(2 ^ 64) < i ∧ i < 2 ^ 64) ∧ Q (.int (i * j)) H2) σ H
variable {a b : Expr} {ta tb : TE} {pos : Pos}
/-! ### comparisons -/
def PC (X : Cx) (op : CmpOp) (a b : Expr) (t : TE) : Prop :=
  ∀ (pins : List (Addr × Obj)) (s : Shared) (σ : St) (H : Hp) (Q : VK), Inv X pins σ H s → t σ H Q →
    wpAny (model X.prog X.w) X.A (eval a X.env) (fun v s₁ => wpAny (model X.prog X.w) X.A (eval b X.env) (fun u s₂ => wpAny (model X.prog X.w) X.A (compareOp op v u) (EP X pins σ Q) X.xe s₂) X.xe s₁) X.xe s
def tCmp (p : Int → Int → Bool) (ta tb : TE) : TE := fun σ H Q => t2I ta tb (fun i j H2 => Q (.bl (p i j)) H2) σ H
abbrev tLt : TE → TE → TE := tCmp fun i j => decide (i < j)
abbrev tLe : TE → TE → TE := tCmp fun i j => decide (i ≤ j)
abbrev tGt : TE → TE → TE := tCmp fun i j => decide (j < i)
abbrev tGe : TE → TE → TE := tCmp fun i j => decide (j ≤ i)
abbrev tEqI : TE → TE → TE := tCmp fun i j => decide (i = j)
abbrev tNeI : TE → TE → TE := tCmp fun i j => !decide (i = j)
/-- is None -/
def tIsN (ta : TE) : TE := fun σ H Q => ta σ H fun x H1 => Q (.bl (decide (x = .non))) H1
def tNotN (ta : TE) : TE := fun σ H Q => ta σ H fun x H1 => Q (.bl (!decide (x = .non))) H1
/-- a comparison as a value, as a test -/
def tB (t : TE) : TT := fun σ H Q => t σ H fun x H1 => ∃ c, x = .bl c ∧ Q c H1
theorem pt_cmp {op : CmpOp} {t : TE} (h : PC X op a b t) (h1 : behindInMarks op b = false := by first | exact nobehind _ (by decide) (by decide) | rfl) : PT X (.Compare a [op] [b] pos) (tB t) := by
  intro pins s σ H Q I hw
  refine wpAny_isTrue_Compare1 (thn (h pins s σ H _ I hw) fun v s1 h1 => thn h1 fun u s2 h2 => thn h2 fun c s3 ⟨x, H1, I1, r1, q1⟩ => ?_) h1
  obtain ⟨d, rfl, q⟩ := q1
  cases r1
  exact wpAny_truthy_bool ⟨H1, I1, q⟩
/-- an expression whose value is a bool, as a test -/
theorem pt_val {e : Expr} {t : TE} (h : PE X e t) (he : ∀ whole, isTrue e X.env whole = (do let v ← whole; standAt e.pos; holding [v] (truthy v)) := by intro _; rfl) : PT X e (tB t) := by
  intro pins s σ H Q I hw
  refine isTrue_plain (thn (h pins s σ H _ I hw) fun v s1 ⟨x, H1, I1, r1, q1⟩ => ?_) (he _)
  obtain ⟨d, rfl, q⟩ := q1
  cases r1
  exact wpAny_truthy_bool ⟨H1, I1, q⟩

/-! ### and, or, not -/
variable {tA tB' : TT} {rest : List Expr}
def tAnd (t u : TT) : TT := fun σ H Q => t σ H fun c H1 => if c = true then u σ H1 Q else Q false H1
def tOr (t u : TT) : TT := fun σ H Q => t σ H fun c H1 => if c = true then Q true H1 else u σ H1 Q
def tNot (t : TT) : TT := fun σ H Q => t σ H fun c H1 => Q (!c) H1
theorem pw_or1 (ha : PT X a tA) : PW X (.BoolOp .Or [a] pos) tA := by
  intro wh pins s σ H Q I h
  refine isTrue_or (thn (ha pins s σ H Q I h) fun c s1 e => ?_)
  cases c with
  | false => exact isTrue_or_nil e
  | true => exact e
theorem pw_or (ha : PT X a tA) (hb : PW X (.BoolOp .Or (b :: rest) pos) tB') : PW X (.BoolOp .Or (a :: b :: rest) pos) (tOr tA tB') := by
  intro wh pins s σ H Q I h
  refine isTrue_or (thn (ha pins s σ H _ I h) fun c s1 ⟨H1, I1, q1⟩ => ?_)
  cases c with
  | true => exact ⟨H1, I1, q1⟩
  | false => exact hb wh pins s1 σ H1 Q I1 q1
theorem pt_not (ha : PT X a tA) : PT X (.UnaryOp .Not a pos) (tNot tA) := by
  intro pins s σ H Q I h
  exact isTrue_not (ha pins s σ H (fun c H1 => Q (!c) H1) I h)
/-- .. as values (bools) -/
def tAndV (ta tb : TE) : TE := fun σ H Q => ta σ H fun x H1 => ∃ c, x = .bl c ∧ if c = true then tb σ H1 Q else Q (.bl false) H1
def tOrV (ta tb : TE) : TE := fun σ H Q => ta σ H fun x H1 => ∃ c, x = .bl c ∧ if c = true then Q (.bl true) H1 else tb σ H1 Q
def tNotV (ta : TE) : TE := fun σ H Q => ta σ H fun x H1 => ∃ c, x = .bl c ∧ Q (.bl (!c)) H1
/-- a if t else b -/
def tIf (t : TT) (ta tb : TE) : TE := fun σ H Q => t σ H fun c H1 => if c = true then ta σ H1 Q else tb σ H1 Q
theorem pe_ifExp {c : Expr} (hc : PT X c tA) (ha : PE X a ta) (hb : PE X b tb) : PE X (.IfExp c a b pos) (tIf tA ta tb) := by
  intro pins s σ H Q I h
  refine wpAny_IfExp (thn (hc pins s σ H _ I h) fun d s1 ⟨H1, I1, q1⟩ => ?_)
  cases d with
  | true => exact ha pins s1 σ H1 Q I1 q1
  | false => exact hb pins s1 σ H1 Q I1 q1
end
end L2

namespace L2
open PySem PySem.Spec PyProof.Rows

/-! ### a list, a tuple that is read: tracked, frozen, or an object of the module -/
def SqL (K : PySem.W.Frag) (H : Hp) (a : Addr) (xs : List V) : Prop :=
  Rd H a (.lst xs) ∨
    ∃ (o : Obj) (its : Array Value) (n : Nat), K.lookup a = some o ∧ o.cls = .type "list" ∧ o.dict = none ∧ o.data = .seq its n ∧ its.size ≤ sizeLine ∧ Vals xs its.toList
def SqT (K : PySem.W.Frag) (H : Hp) (a : Addr) (xs : List V) : Prop :=
  Rd H a (.tup xs) ∨
    ∃ (o : Obj) (its : Array Value) (n : Nat), K.lookup a = some o ∧ o.cls = .type "tuple" ∧ o.data = .seq its n ∧ its.size ≤ sizeLine ∧ Vals xs its.toList
def absV : Value → Option V
  | .none => some .non
  | .bool b => some (.bl b)
  | .int i _ => some (.int i)
  | .str x _ => some (.str x)
  | .bytes b _ => some (.byt b)
  | .float b _ => some (.flt b)
  | .ref a => some (.ref a)
  | .type n => some (.ty n)
  | _ => none
theorem RelV.abs {x : V} {u : Value} (r : RelV x u) : absV u = some x := by
  cases x with
  | non => cases r; rfl
  | bl _ => cases r; rfl
  | int _ => obtain ⟨t, rfl⟩ := r; rfl
  | str _ => obtain ⟨t, rfl⟩ := r; rfl
  | byt _ => obtain ⟨t, rfl⟩ := r; rfl
  | flt _ => obtain ⟨t, rfl⟩ := r; rfl
  | ref _ => cases r; rfl
  | ty _ => cases r; rfl
theorem RelV.inj {x y : V} {u : Value} (r : RelV x u) (q : RelV y u) : x = y := Option.some.inj (r.abs.symm.trans q.abs)
theorem Vals.inj : ∀ {xs ys : List V} {us : List Value}, Vals xs us → Vals ys us → xs = ys
  | _, _, _, .nil, .nil => rfl
  | _, _, _, .cons r t, .cons r' t' => by rw [r.inj r', Vals.inj t t']
section
variable {X : Cx} {pins : List (Addr × Obj)} {σ : St} {H : Hp} {s : Shared} {a : Addr} {xs ys : List V}
theorem SqL.of {K : PySem.W.Frag} (h : H a = some (.lst xs)) : SqL K H a xs := .inl (.inl h)
theorem SqT.of {K : PySem.W.Frag} (h : H a = some (.tup xs)) : SqT K H a xs := .inl (.inl h)
theorem Inv.list (I : Inv X pins σ H s) (h : SqL X.K H a xs) : ∃ its : List Value, Vals xs its ∧ PlainL s.heap a its.toArray ∧ xs.length ≤ sizeLine := by
  rcases h with h | ⟨o, its, n, hk, hc, hd, hs, hz, r⟩
  · obtain ⟨z, its, n, r, e⟩ := h.ok I.hok
    exact ⟨its, r, ⟨_, n, e, rfl, rfl, rfl⟩, z⟩
  · refine ⟨its.toList, r, ⟨o, n, I.kIn a o hk, hc, hd, by simpa using hs⟩, ?_⟩
    have e := r.length
    simp only [Array.length_toList] at e
    omega
theorem Inv.tuple (I : Inv X pins σ H s) (h : SqT X.K H a xs) : ∃ its : List Value, Vals xs its ∧ IsTup s.heap a its.toArray ∧ xs.length ≤ sizeLine := by
  rcases h with h | ⟨o, its, n, hk, hc, hs, hz, r⟩
  · obtain ⟨z, its, r, p⟩ := h.ok I.hok
    exact ⟨its, r, p, z⟩
  · refine ⟨its.toList, r, ⟨o, I.kIn a o hk, hc, n, by simpa using hs⟩, ?_⟩
    have e := r.length
    simp only [Array.length_toList] at e
    omega
theorem Inv.list_inj (I : Inv X pins σ H s) (h : SqL X.K H a xs) (h' : SqL X.K H a ys) : xs = ys := by
  obtain ⟨its, r, ⟨o, n, e, _, _, d⟩, _⟩ := I.list h
  obtain ⟨its', r', ⟨o', n', e', _, _, d'⟩, _⟩ := I.list h'
  rw [e] at e'; cases e'
  rw [d] at d'
  injection d' with d1 _
  have : its = its' := by simpa using congrArg Array.toList d1
  subst this
  exact r.inj r'
end

/-! ### another wish about exceptions -/
abbrev Cx.wish (X : Cx) (E : Value → Shared → Prop) : Cx := { X with xe := E }
/-- no exception leaves -/
abbrev Cx.nox (X : Cx) : Cx := X.wish fun _ _ => False
theorem Cx.Ok.wish {X : Cx} (ok : X.Ok) (E : Value → Shared → Prop) : (X.wish E).Ok :=
  ⟨ok.mod, ok.kind, ok.glob, ok.blt, ok.above, ok.inj, ok.has, ok.cab, ok.hd, ok.frames, ok.stk, ok.exf, ok.bs, ok.bsz, ok.noex, ok.exfs, ok.funs, ok.frf⟩
theorem Cx.Ok.unwish {X : Cx} {E : Value → Shared → Prop} (ok : (X.wish E).Ok) : X.Ok :=
  ⟨ok.mod, ok.kind, ok.glob, ok.blt, ok.above, ok.inj, ok.has, ok.cab, ok.hd, ok.frames, ok.stk, ok.exf, ok.bs, ok.bsz, ok.noex, ok.exfs, ok.funs, ok.frf⟩
section
variable {X : Cx} {pins : List (Addr × Obj)} {σ : St} {H : Hp} {s : Shared} {E : Value → Shared → Prop}
theorem Inv.wish (I : Inv X pins σ H s) (E : Value → Shared → Prop) : Inv (X.wish E) pins σ H s := ⟨I.ok.wish E, I.os, I.bare, I.base, I.loc, I.cell, I.free, I.freeC, I.pin, I.hok, I.len⟩
theorem Inv.unwish (I : Inv (X.wish E) pins σ H s) : Inv X pins σ H s := ⟨I.ok.unwish, I.os, I.bare, I.base, I.loc, I.cell, I.free, I.freeC, I.pin, I.hok, I.len⟩
theorem SP.unwish {D : Ends} {f : Flow} {s' : Shared} (h : SP (X.wish E) pins D f s') : SP X pins D f s' := by
  cases f with
  | next => obtain ⟨σ', H', I, q⟩ := h; exact ⟨σ', H', I.unwish, q⟩
  | brk => obtain ⟨σ', H', I, q⟩ := h; exact ⟨σ', H', I.unwish, q⟩
  | cont => obtain ⟨σ', H', I, q⟩ := h; exact ⟨σ', H', I.unwish, q⟩
  | ret u => obtain ⟨v, σ', H', I, r, q⟩ := h; exact ⟨v, σ', H', I.unwish, r, q⟩
theorem PSs.nox {st : List Stmt} {t : TS} (h : PSs X.nox st t) : PSs X st t := fun pins s σ H D I hw =>
  wpAny_mono (h pins s σ H D (I.wish _) hw) (fun _ _ q => q.unwish) fun _ _ z => False.elim z
end

/-! ### blocks and small statements -/
section
variable {X : Cx} {st : Stmt} {rest : List Stmt} {t u : TS} {e : Expr} {te : TE} {pos : Pos}
def tNext : TS := fun D σ H => D.nx σ H
def tSeq (t u : TS) : TS := fun D σ H => t { D with nx := u D } σ H
theorem pss_nil : PSs X [] tNext := fun _ _ σ H _ I h => wpAny_execs_nil ⟨σ, H, I, h⟩
theorem pss_cons (h1 : PS X st t) (h2 : PSs X rest u) : PSs X (st :: rest) (tSeq t u) := by
  intro pins s σ H D I h
  refine wpAny_execs_cons (thn (h1 pins s σ H { D with nx := u D } I h) fun f s1 q => ?_)
  cases f with
  | next =>
    obtain ⟨σ', H', I', q⟩ := q
    exact h2 pins s1 σ' H' D I' q
  | ret v => exact q
  | brk => exact q
  | cont => exact q
theorem pss_one (h1 : PS X st t) : PSs X [st] t := by
  intro pins s σ H D I h
  refine wpAny_execs_cons (thn (h1 pins s σ H D I h) fun f s1 q => ?_)
  cases f with
  | next => exact wpAny_execs_nil q
  | ret v => exact q
  | brk => exact q
  | cont => exact q
def tBreak : TS := fun D σ H => D.bk σ H
def tCont : TS := fun D σ H => D.ct σ H
/-- in a def's body nothing is shown -/
theorem Inv.quiet {pins : List (Addr × Obj)} {σ : St} {H : Hp} {s : Shared} (I : Inv X pins σ H s) : interactive X.env = false := by simp [interactive, I.ok.kind]
/-- an expression whose value is dropped -/
def tDrop (te : TE) : TS := fun D σ H => te σ H fun _ H1 => D.nx σ H1
theorem ps_expr (he : PE X e te) (hs : swapsWith e none pos.line X.env = pure false := by rfl) : PS X (.Expr e pos) (tDrop te) := by
  intro pins s σ H D I h
  exact wpAny_Expr_any (thn (he pins s σ H _ I h) fun v s1 ⟨x, H1, I1, r1, q1⟩ => ⟨σ, H1, I1, q1⟩) I.quiet hs
def tRet (te : TE) : TS := fun D σ H => te σ H D.rt
theorem ps_ret (he : PE X e te) : PS X (.Return (some e) pos) (tRet te) := by
  intro pins s σ H D I h
  exact wpAny_Return_some (thn (he pins s σ H _ I h) fun v s1 ⟨x, H1, I1, r1, q1⟩ => ⟨x, σ, H1, I1, r1, q1⟩)
def tRetN : TS := fun D _ H => D.rt .non H
def tIfS (c : TT) (t u : TS) : TS := fun D σ H => c σ H fun b H1 => if b = true then t D σ H1 else u D σ H1
theorem ps_if {c : Expr} {a b : List Stmt} {tc : TT} (hc : PT X c tc) (ha : PSs X a t) (hb : PSs X b u) : PS X (.If c a b pos) (tIfS tc t u) := by
  intro pins s σ H D I h
  refine wpAny_If (thn (hc pins s σ H _ I h) fun d s1 ⟨H1, I1, q1⟩ => ?_)
  cases d with
  | true => exact ha pins s1 σ H1 D I1 q1
  | false => exact hb pins s1 σ H1 D I1 q1
/-- code that the proof never comes to -/
def tNever : TS := fun _ _ _ => False
end

/-! ### targets -/
abbrev TG := V → St → Hp → (St → Hp → Prop) → Prop
abbrev TGs := List V → St → Hp → (St → Hp → Prop) → Prop
def PG (X : Cx) (target : Expr) (t : TG) : Prop :=
  ∀ (pins : List (Addr × Obj)) (s : Shared) (σ : St) (H : Hp) (v : V) (u : Value) (Q : St → Hp → Prop), Inv X pins σ H s → RelV v u → t v σ H Q →
    wpAny (model X.prog X.w) X.A (assign target X.env u) (fun _ s' => ∃ σ' H', Inv X pins σ' H' s' ∧ Q σ' H') X.xe s
/-- several targets, one after another -/
def PGs (X : Cx) (ts : List Expr) (t : TGs) : Prop :=
  ∀ (pins : List (Addr × Obj)) (s : Shared) (σ : St) (H : Hp) (vs : List V) (us : List Value) (Q : St → Hp → Prop), Inv X pins σ H s → Vals vs us → t vs σ H Q →
    wpAny (model X.prog X.w) X.A (assignInOrder ((assignEach ts X.env).map (·.2)) us) (fun _ s' => ∃ σ' H', Inv X pins σ' H' s' ∧ Q σ' H') X.xe s
/-- o[i] = v, by values -/
abbrev TSet := V → V → V → Hp → (Hp → Prop) → Prop
def PSet (X : Cx) (t : TSet) : Prop :=
  ∀ (pins : List (Addr × Obj)) (s : Shared) (σ : St) (H : Hp) (o i v : V) (ov iv u : Value) (Q : Hp → Prop), Inv X pins σ H s → RelV o ov → RelV i iv → RelV v u → t o i v H Q →
    wpAny (model X.prog X.w) X.A (setItem ov iv u) (fun _ s' => ∃ H', Inv X pins σ H' s' ∧ Q H') X.xe s
/-- a op= b, by values -/
abbrev TIp := V → V → Hp → VK → Prop
def PIp (X : Cx) (op : Operator) (t : TIp) : Prop :=
  ∀ (pins : List (Addr × Obj)) (s : Shared) (σ : St) (H : Hp) (x y : V) (v u : Value) (Q : VK), Inv X pins σ H s → RelV x v → RelV y u → t x y H Q →
    wpAny (model X.prog X.w) X.A (inplaceOp op v u) (EP X pins σ Q) X.xe s
section
variable {X : Cx} {pos : Pos}
def gName (i : Nat) : TG := fun v σ H Q => Q (σ.set i (some v)) H
theorem pg_name {i : Nat} {x : Str} (hN : X.N.Nodup) (hi : X.N[i]? = some x) (hx : Loc X.env.scope x) (hf : X.fn x = true ∨ X.env.scope.names.lookup x = some .local := by first | exact .inl rfl | exact .inr rfl | assumption) : PG X (.Name x pos) (gName i) := by
  intro pins s σ H v u Q I r h
  exact wpAny_assign_Name (store_ok I hN hi hx r (fun s' I' => ⟨_, H, I', h⟩) hf)
def gNil : TGs := fun vs σ H Q => vs = [] ∧ Q σ H
def gCons (t : TG) (u : TGs) : TGs := fun vs σ H Q => ∃ v r, vs = v :: r ∧ t v σ H fun σ' H' => u r σ' H' Q
/-- (a, b, ..) = a tuple of that length -/
def gTup (K : PySem.W.Frag) (n : Nat) (t : TGs) : TG := fun v σ H Q => ∃ a xs, v = .ref a ∧ SqT K H a xs ∧ xs.length = n ∧ t xs σ H Q
/-- o[i] = .. -/
def gSub (to ti : TE) (t : TSet) : TG := fun v σ H Q => to σ H fun o H1 => ti σ H1 fun i H2 => t o i v H2 fun H3 => Q σ H3
/-- target = value -/
def tAsg (te : TE) (g : TG) : TS := fun D σ H => te σ H fun x H1 => g x σ H1 D.nx
/-- name = value -/
theorem ps_set {i : Nat} {x : Str} {e : Expr} {te : TE} {pos' : Pos} (hN : X.N.Nodup) (hi : X.N[i]? = some x) (hx : Loc X.env.scope x) (he : PE X e te) (hs : swapsWith e (some (.Name x pos')) pos.line X.env = pure false := by rfl) (hf : X.fn x = true ∨ X.env.scope.names.lookup x = some .local := by first | exact .inl rfl | exact .inr rfl | assumption) :
    PS X (.Assign [.Name x pos'] e pos) (tAsg te (gName i)) := by
  intro pins s σ H D I h
  refine wpAny_Assign_Name (thn (he pins s σ H _ I h) fun v s1 ⟨y, H1, I1, r1, q1⟩ => ?_) hs
  exact store_ok I1 hN hi hx r1 (fun s2 I2 => ⟨_, H1, I2, q1⟩) hf
/-- a, b = x, y with plain local names: stored from the right; the pair itself is not tracked (the opening rows as in PyProof/Rows/TupAssign.lean:23) -/
def tPar (i j : Nat) (ta : TA) : TS := fun D σ H => ta σ H fun vs H1 => ∃ v w, vs = [v, w] ∧ D.nx ((σ.set i (some v)).set j (some w)) H1
/-- name op= e -/
def tAug (i : Nat) (te : TE) (ti : TIp) : TS := fun D σ H => ∃ x, σ[i]? = some (some x) ∧ te σ H fun y H1 => ti x y H1 fun z H2 => D.nx (σ.set i (some z)) H2
/-- o[i] op= e -/
def tAugS (to ti te : TE) (tget : V → V → Hp → VK → Prop) (tip : TIp) (tset : TSet) : TS := fun D σ H => to σ H fun o H1 => ti σ H1 fun i H2 => tget o i H2 fun x H3 => te σ H3 fun y H4 => tip x y H4 fun z H5 => tset o i z H5 fun H6 => D.nx σ H6
/-- o[i], by values -/
def PGet (X : Cx) (t : V → V → Hp → VK → Prop) : Prop :=
  ∀ (pins : List (Addr × Obj)) (s : Shared) (σ : St) (H : Hp) (o i : V) (ov iv : Value) (Q : VK), Inv X pins σ H s → RelV o ov → RelV i iv → t o i H Q →
    wpAny (model X.prog X.w) X.A (getItem ov iv) (EP X pins σ Q) X.xe s
/-- ints -/
def ipI (f : Int → Int → Int) : TIp := fun x y H Q => ∃ i j, x = .int i ∧ y = .int j ∧ Q (.int (f i j)) H
end

/-! ### while -/
section
variable {X : Cx} {pos : Pos}
/-- the invariant W with its measure -/
def tWhile (c : TT) (tb : TS) : TS := fun D σ H => ∃ W : Nat → St → Hp → Prop, (∃ m, W m σ H) ∧ ∀ m σ H, W m σ H →
  c σ H fun b H1 => if b = true then ∃ N : St → Hp → Prop, (∀ σ' H', N σ' H' → ∃ m', m' < m ∧ W m' σ' H') ∧ tb { D with nx := N, ct := N, bk := D.nx } σ H1 else D.nx σ H1
theorem ps_while {c : Expr} {body : List Stmt} {tc : TT} {tb : TS} (hp : PassesOwn (model X.prog X.w) X.A X.env X.xe) (hc : PT X c tc) (hb : PSs X body tb) : PS X (.While c body [] pos) (tWhile tc tb) := by
  intro pins s σ H D I h
  obtain ⟨W, ⟨m0, w0⟩, turn⟩ := h
  refine wpAny_While (codeAny_whileLoop (fun n s' => ∃ σ' H', Inv X pins σ' H' s' ∧ W n σ' H') ?_ m0 ⟨σ, H, I, w0⟩)
  rintro n s1 ⟨σ1, H1, I1, w1⟩
  refine wpAny_passesOwn hp (thn (hc pins s1 σ1 H1 _ I1 (turn n σ1 H1 w1)) fun b s2 ⟨H2, I2, q2⟩ => ?_)
  cases b with
  | true =>
    obtain ⟨N, hN, q2⟩ := q2
    rw [if_pos rfl]
    refine wpAny_passesOwn hp (thn (hb pins s2 σ1 H2 _ I2 q2) fun f s3 q3 => ?_)
    cases f with
    | next =>
      obtain ⟨σ3, H3, I3, n3⟩ := q3
      obtain ⟨m', hm, w3⟩ := hN σ3 H3 n3
      exact ⟨m', hm, σ3, H3, I3, w3⟩
    | cont =>
      obtain ⟨σ3, H3, I3, n3⟩ := q3
      obtain ⟨m', hm, w3⟩ := hN σ3 H3 n3
      exact ⟨m', hm, σ3, H3, I3, w3⟩
    | brk => exact q3
    | ret v => exact q3
  | false =>
    rw [if_neg Bool.false_ne_true]
    exact wpAny_execs_nil ⟨σ1, H2, I2, q2⟩
end

/-! ### what a loop or a comprehension walks -/
/-- at turn i: it yields x (the heap may grow), or it stops -/
structure It where
  go : Nat → Hp → Prop
  yld : Nat → Hp → V → Hp → Prop
  stop : Nat → Hp → Prop
/-- the iterator's own objects may turn: they are not the frame's, not pinned, younger than the entry (or a comprehension's own) -/
def FpOk (X : Cx) (pins : List (Addr × Obj)) (H : Hp) (b : Addr) : Prop :=
  H b = none ∧ b ≠ X.env.locals ∧ b ∉ X.fs ∧ (b ∈ X.ex ∨ X.s₀.heap.objs.size ≤ b) ∧ (∀ x c, X.env.cells.lookup x = some c → c ≠ b) ∧ ∀ p ∈ X.pn ++ pins, p.1 ≠ b
theorem Inv.fpOk {X : Cx} {pins : List (Addr × Obj)} {σ : St} {H H' : Hp} {s : Shared} {b : Addr} (I : Inv X pins σ H s) (hb : s.heap.objs.size ≤ b) (hn : H' b = none) : FpOk X pins H' b := by
  refine ⟨hn, Nat.ne_of_gt (Nat.lt_of_lt_of_le I.lt hb), I.nofs hb, .inr (Nat.le_trans I.sz hb), fun x c e z => ?_, fun p hp z => ?_⟩
  · obtain ⟨v, q⟩ := I.cell x c e
    exact absurd (Nat.lt_of_lt_of_le q.lt (by rw [z]; exact hb)) (Nat.lt_irrefl _)
  · exact absurd (Nat.lt_of_lt_of_le (Heap.lt_size (I.pin p hp).1) (by rw [z]; exact hb)) (Nat.lt_irrefl _)
structure Turn (P : Program) (w : World) (K : PySem.W.Frag) (tg : Expr) (J : It) (fp : List Addr) (it : Addr) (tn : Nat → Heap → Prop) : Prop where
  mem : it ∈ fp
  obj : ∀ i h, tn i h → ∀ b ∈ fp, ∃ o, h.get? b = some o ∧ ∀ v, o.data ≠ .cell v
  keep : ∀ i h h', tn i h → (∀ b ∈ fp, ∀ o, h.get? b = some o → h'.get? b = some o) → tn i h'
  item : ∀ (X : Cx), X.prog = P → X.w = w → X.K = K → X.calm = true → ∀ (i : Nat) (pins : List (Addr × Obj)) (s : Shared) (σ : St) (H : Hp) (E : Value → Shared → Prop), Inv X pins σ H s → (∀ b ∈ fp, FpOk X pins H b) → tn i s.heap → J.go i H →
    wpAny (model P w) X.A (pyNext (.ref it)) (fun r s1 => ∃ u, r = some u ∧
      wpAny (model P w) X.A (letOwnedTupleGo tg (.ref it) u) (fun _ s2 => ∃ x H', Inv X pins σ H' s2 ∧ RelV x u ∧ J.yld i H x H' ∧ tn (i + 1) s2.heap ∧ ∀ b ∈ fp, H' b = none) E s1) E s
  done : ∀ (X : Cx), X.prog = P → X.w = w → X.K = K → X.calm = true → ∀ (i : Nat) (pins : List (Addr × Obj)) (s : Shared) (σ : St) (H : Hp) (E : Value → Shared → Prop), Inv X pins σ H s → (∀ b ∈ fp, FpOk X pins H b) → tn i s.heap → J.stop i H →
    wpAny (model P w) X.A (pyNext (.ref it)) (fun r s1 => r = none ∧ Inv X pins σ H s1) E s
  self : ∀ (A : Around) (i : Nat) (s : Shared) (Q : Value → Shared → Prop) (E : Value → Shared → Prop), tn i s.heap → Q (.ref it) s → wpAny (model P w) A (pyIter (.ref it)) Q E s
abbrev TI := St → Hp → (It → Hp → Prop) → Prop
/-- an iterator has come -/
def PIE (X : Cx) (pins : List (Addr × Obj)) (σ : St) (tg : Expr) (R : It → Hp → Prop) (itv : Value) (s2 : Shared) : Prop :=
  ∃ (it : Addr) (fp : List Addr) (tn : Nat → Heap → Prop) (J : It) (H' : Hp), itv = .ref it ∧ Inv X pins σ H' s2 ∧ Turn X.prog X.w X.K tg J fp it tn ∧ tn 0 s2.heap ∧ (∀ b ∈ fp, FpOk X pins H' b) ∧ R J H'
def PI (X : Cx) (tg iter : Expr) (wi : TI) : Prop :=
  ∀ (pins : List (Addr × Obj)) (s : Shared) (σ : St) (H : Hp) (R : It → Hp → Prop), Inv X pins σ H s → wi σ H R →
    wpAny (model X.prog X.w) X.A (eval iter X.env) (fun v s1 => wpAny (model X.prog X.w) X.A (pyIter v) (PIE X pins σ tg R) X.xe s1) X.xe s

/-- the step ahead of the store is nothing for an iterator that keeps no tuple -/
theorem go_of {M : Model} {A : Around} {E : Value → Shared → Prop} {s : Shared} {tg : Expr} {it : Addr} {u : Value} {o : Obj} {n : String} {vs : Array Value} {Q : Unit → Shared → Prop} (ho : s.heap.get? it = some o) (hc : o.cls = .type n) (hd : o.data = .fields vs)
    (hn : ["enumerate", "zip", "dict_itemiterator", "dict_reverseitemiterator", "odict_iterator", "itertools.zip_longest", "itertools.pairwise"].contains n = false) (hQ : Q () s) : wpAny M A (letOwnedTupleGo tg (.ref it) u) Q E s := by
  unfold letOwnedTupleGo
  cases tg <;> first
    | exact wpAny_pure hQ
    | (cases u <;> first
        | exact wpAny_pure hQ
        | (refine wpAny_bind (wpAny_load ho ?_)
           rw [hc, hd]
           show wpAny M A (if (["enumerate", "zip", "dict_itemiterator", "dict_reverseitemiterator", "odict_iterator", "itertools.zip_longest", "itertools.pairwise"].contains n && vs[0]? == some (rawInt _)) = true then _ else _) Q E s
           rw [if_neg (by intro h; rw [hn, Bool.false_and] at h; cases h)]
           exact wpAny_pure hQ))

/-- the list at a, as it stands at each turn (a loop may append to it) -/
def Itl (K : PySem.W.Frag) (a : Addr) : It :=
  ⟨fun i H => ∃ xs x, SqL K H a xs ∧ xs[i]? = some x, fun i H x H' => H' = H ∧ ∀ xs, SqL K H a xs → xs[i]? = some x, fun i H => ∃ xs, SqL K H a xs ∧ xs.length ≤ i⟩
def Itt (K : PySem.W.Frag) (a : Addr) : It :=
  ⟨fun i H => ∃ xs x, SqT K H a xs ∧ xs[i]? = some x, fun i H x H' => H' = H ∧ ∀ xs, SqT K H a xs → xs[i]? = some x, fun i H => ∃ xs, SqT K H a xs ∧ xs.length ≤ i⟩
/-- lo, lo + 1, .. (n of them) -/
def Itr (lo : Int) (n : Nat) : It := ⟨fun i _ => i < n, fun i H x H' => H' = H ∧ x = .int (lo + i), fun i _ => n ≤ i⟩
theorem turn_list {P : Program} {w : World} {K : PySem.W.Frag} {tg : Expr} (a it : Addr) : Turn P w K tg (Itl K a) [it] it (fun i h => h.IsListIter it a i) where
  mem := by simp
  obj := fun i h st b hb => by
    have e : b = it := by simpa using hb
    subst e
    obtain ⟨o, e, c, d⟩ := st
    exact ⟨o, e, fun v z => by rw [d] at z; cases z⟩
  keep := fun i h h' st k => st.at fun o e => k it (by simp) o e
  item := by
    intro X hP hw hK hc i pins s σ H E I hf st hg
    subst hP hw hK
    obtain ⟨xs, x, hq, hx⟩ := hg
    obtain ⟨its, rv, p, hz⟩ := I.list hq
    obtain ⟨u, hu, ru⟩ := rv.get hx
    obtain ⟨f0, f1, f2, f3, f4, f5⟩ := hf it (by simp)
    refine wpAny_pyNext_list_item st p.isList (x := u) (by simpa using hu) fun h' st' sb => ?_
    have I1 : Inv X pins σ H { s with heap := h' } := I.turned (t' := s.toks) (fun b o hb e => (sb.2 b hb).trans e) f0 f1 f3 f4 f5
    obtain ⟨o, e, c, d⟩ := id st'
    exact ⟨u, rfl, go_of (s := { s with heap := h' }) e c d (by decide) ⟨x, H, I1, ru, ⟨rfl, fun ys hy => by rw [I.list_inj hy hq]; exact hx⟩, st', fun b hb => (hf b hb).1⟩⟩
  done := by
    intro X hP hw hK hc i pins s σ H E I hf st hg
    subst hP hw hK
    obtain ⟨xs, hq, hx⟩ := hg
    obtain ⟨its, rv, p, hz⟩ := I.list hq
    obtain ⟨f0, f1, f2, f3, f4, f5⟩ := hf it (by simp)
    have hl := rv.length
    exact wpAny_pyNext_list_end (I.ok.hd hc) st p.isList (by simp; omega) fun h' eb => ⟨rfl, I.turned (t' := s.toks) (fun b o hb e => eb b o hb e) f0 f1 f3 f4 f5⟩
  self := fun _ _ _ _ _ st h => wpAny_pyIter_listiter st h
theorem turn_range {P : Program} {w : World} {K : PySem.W.Frag} {tg : Expr} (it : Addr) (lo : Int) (n : Nat) : Turn P w K tg (Itr lo n) [it] it (fun i h => IsRangeIter h it (lo + (i : Nat) * 1) ((n : Int) - (i : Nat)) 1) where
  mem := by simp
  obj := fun i h st b hb => by
    have e : b = it := by simpa using hb
    subst e
    exact ⟨_, st, fun v z => by
      have z' : Data.fields _ = Data.cell v := z
      cases z'⟩
  keep := fun i h h' st k => k it (by simp) _ st
  item := by
    intro X hP hw hK hc i pins s σ H E I hf st hg
    subst hP hw hK
    obtain ⟨f0, f1, f2, f3, f4, f5⟩ := hf it (by simp)
    have W := Walks.range (prog := X.prog) (w := X.w) (I.ok.hd hc) it lo 1 n
    refine W.item i s _ _ hg st fun v h' tk hv st' kk => ?_
    obtain ⟨t, rfl⟩ := hv
    have I1 : Inv X pins σ H { s with heap := h', toks := tk } := I.turned (fun b o hb e => kk b o (by simpa using hb) e) f0 f1 f3 f4 f5
    refine ⟨_, rfl, go_of (s := { s with heap := h', toks := tk }) (n := "range_iterator") st' rfl rfl (by decide) ⟨.int (lo + i), H, I1, ⟨t, ?_⟩, ⟨rfl, rfl⟩, st', fun b hb => (hf b hb).1⟩⟩
    rw [Int.mul_one]
  done := by
    intro X hP hw hK hc i pins s σ H E I hf st hg
    subst hP hw hK
    obtain ⟨f0, f1, f2, f3, f4, f5⟩ := hf it (by simp)
    exact wpAny_pyNext_range_end (I.ok.hd hc) st (by have : n ≤ i := hg; omega) fun h' eb => ⟨rfl, I.turned (t' := s.toks) (fun b o hb e => eb b o hb e) f0 f1 f3 f4 f5⟩
  self := fun _ _ _ _ _ st h => wpAny_pyIter_rangeiter st h
end L2

namespace L2
open PySem PySem.Spec PyProof.Rows
section
variable {X : Cx} {tg : Expr}
def iList (K : PySem.W.Frag) (tl : TE) : TI := fun σ H R => tl σ H fun x H1 => ∃ a, x = .ref a ∧ (∃ xs, SqL K H1 a xs) ∧ R (Itl K a) H1
def iTup (K : PySem.W.Frag) (tl : TE) : TI := fun σ H R => tl σ H fun x H1 => ∃ a, x = .ref a ∧ (∃ xs, SqT K H1 a xs) ∧ R (Itt K a) H1
theorem pi_list {l : Expr} {tl : TE} (hl : PE X l tl) : PI X tg l (iList X.K tl) := by
  intro pins s σ H R I h
  refine thn (hl pins s σ H _ I h) fun v s1 ⟨x, H1, I1, r1, q1⟩ => ?_
  obtain ⟨a, e, ⟨xs, hq⟩, q⟩ := q1
  subst e
  cases r1
  obtain ⟨its, rv, p, hz⟩ := I1.list hq
  refine wpAny_pyIter_list p.isList ?_
  refine ⟨s1.heap.objs.size, [s1.heap.objs.size], _, _, H1, rfl, I1.kept (t' := s1.toks) fun b o e => Heap.get?_push_of_some _ e, turn_list a _, ⟨_, Heap.get?_push_size _ rfl, rfl, rfl⟩, fun b hb => ?_, q⟩
  have e : b = s1.heap.objs.size := by simpa using hb
  subst e
  exact I1.fpOk (Nat.le_refl _) (I1.hok.fresh (Nat.le_refl _))
/-- a range object just made, walked -/
theorem range_it {pins : List (Addr × Obj)} {σ : St} {H : Hp} {s : Shared} {R : It → Hp → Prop} {E : Value → Shared → Prop} {lo hi : Int} {t u v : Tok} {tk : Nat} (I : Inv X pins σ H s) (h1 : -(2 ^ 62) ≤ lo) (h2 : lo < 2 ^ 62) (h3 : -(2 ^ 62) ≤ hi) (h4 : hi < 2 ^ 62)
    (q : R (Itr lo (hi - lo).toNat) H) : wpAny (model X.prog X.w) X.A (pyIter (.ref s.heap.objs.size)) (PIE X pins σ tg R) E { s with heap := s.heap.push { cls := .type "range", data := .fields #[.int lo t, .int hi u, .int 1 v] }, toks := tk } := by
  refine wpAny_pyIter_range (IsRange.new ..) (small_one h1 h2 h3 h4) ?_
  have I1 : Inv X pins σ H { s with heap := s.heap.push { cls := .type "range", data := .fields #[.int lo t, .int hi u, .int 1 v] }, toks := tk } := I.kept fun b o e => Heap.get?_push_of_some _ e
  refine ⟨(s.heap.push { cls := .type "range", data := .fields #[.int lo t, .int hi u, .int 1 v] }).objs.size, [(s.heap.push { cls := .type "range", data := .fields #[.int lo t, .int hi u, .int 1 v] }).objs.size], _, _, H, rfl,
    I1.kept (t' := tk) fun b o e => Heap.get?_push_of_some _ e, turn_range _ lo (hi - lo).toNat, ?_, fun b hb => ?_, q⟩
  · have e1 : lo + ((0 : Nat) : Int) * 1 = lo := by simp
    have e2 : (((hi - lo).toNat : Nat) : Int) - ((0 : Nat) : Int) = Builtin.Range.rangeSize lo hi 1 := by rw [rangeSize_one]; split <;> omega
    show IsRangeIter _ _ (lo + ((0 : Nat) : Int) * 1) ((((hi - lo).toNat : Nat) : Int) - ((0 : Nat) : Int)) 1
    rw [e1, e2]
    exact Heap.get?_push_size _ rfl
  · have e : b = (s.heap.push { cls := .type "range", data := .fields #[.int lo t, .int hi u, .int 1 v] }).objs.size := by simpa using hb
    subst e
    exact I1.fpOk (Nat.le_refl _) (I1.hok.fresh (Nat.le_refl _))
def iRng1 (ta : TA) : TI := fun σ H R => ta σ H fun vs H1 => ∃ j : Int, vs = [.int j] ∧ -(2 ^ 62) ≤ j ∧ j < 2 ^ 62 ∧ R (Itr 0 j.toNat) H1
def iRng2 (ta : TA) : TI := fun σ H R => ta σ H fun vs H1 => ∃ i j : Int, vs = [.int i, .int j] ∧ (-(2 ^ 62) ≤ i ∧ i < 2 ^ 62 ∧ -(2 ^ 62) ≤ j ∧ j < 2 ^ 62) ∧ R (Itr i (j - i).toNat) H1
theorem pi_range1 {a : Expr} {ta : TA} {p pos : Pos} (hg : Gl X "range") (hm : X.mg "range" = none) (ha : PA X [a] ta) (hs : starEach [a] X.env = [(false, eval a X.env)] := by rfl) : PI X tg (.Call (.Name "range" p) [a] [] pos) (iRng1 ta) := by
  intro pins s σ H R I h
  refine Call_ (ld_blt I hg hm boot_range (PyProof.Rows.callWith_type1 (thn (ha pos pins s σ H _ I h) fun us s1 ⟨vs, H1, I1, r1, q1⟩ => ?_) hs rfl))
  obtain ⟨j, e, q1, q2, q⟩ := q1
  subst e
  cases r1 with
  | cons r rr =>
    cases rr
    obtain ⟨t, rfl⟩ := r
    exact call_range_1 (range_it I1 (by omega) (by omega) q1 q2 (by simpa using q))
theorem pi_range2 {a b : Expr} {ta : TA} {p pos : Pos} (hg : Gl X "range") (hm : X.mg "range" = none) (ha : PA X [a, b] ta) (hs : starEach [a, b] X.env = [(false, eval a X.env), (false, eval b X.env)] := by rfl) (hs2 : starEach [b] X.env = [(false, eval b X.env)] := by rfl) :
    PI X tg (.Call (.Name "range" p) [a, b] [] pos) (iRng2 ta) := by
  intro pins s σ H R I h
  refine Call_ (ld_blt I hg hm boot_range (PyProof.Rows.callWith_type1 (thn (ha pos pins s σ H _ I h) fun us s1 ⟨vs, H1, I1, r1, q1⟩ => ?_) (by rw [hs, hs2]) (by rw [hs2]; rfl)))
  obtain ⟨i, j, e, ⟨q1, q2, q3, q4⟩, q⟩ := q1
  subst e
  cases r1 with
  | cons r rr =>
    cases rr with
    | cons r' rr =>
      cases rr
      obtain ⟨t, rfl⟩ := r
      obtain ⟨t', rfl⟩ := r'
      exact call_range_2 (range_it I1 q1 q2 q3 q4 q)

/-! ### for -/
/-- W: the invariant by the turn and a measure; N: what the body is to reach -/
def tFor (wi : TI) (g : TG) (tb : TS) : TS := fun D σ H => wi σ H fun J H1 => ∃ W : Nat → Nat → St → Hp → Prop, (∃ m, W 0 m σ H1) ∧ ∀ i m σ H, W i m σ H →
  (J.stop i H ∧ D.nx σ H) ∨ (J.go i H ∧ ∃ N : St → Hp → Prop, (∀ σ' H', N σ' H' → ∃ m', m' < m ∧ W (i + 1) m' σ' H') ∧ ∀ x H', J.yld i H x H' → g x σ H' fun σ2 H2 => tb { D with nx := N, ct := N, bk := D.nx } σ2 H2)
/-- the records at fp as they stand -/
def pinsAt (fp : List Addr) (h : Heap) : List (Addr × Obj) := fp.filterMap fun b => (h.get? b).map fun o => (b, o)
theorem mem_pinsAt {fp : List Addr} {h : Heap} {b : Addr} {o : Obj} (hb : b ∈ fp) (e : h.get? b = some o) : (b, o) ∈ pinsAt fp h := List.mem_filterMap.mpr ⟨b, hb, by rw [e]; rfl⟩
theorem of_pinsAt {fp : List Addr} {h : Heap} {p : Addr × Obj} (hp : p ∈ pinsAt fp h) : p.1 ∈ fp ∧ h.get? p.1 = some p.2 := by
  obtain ⟨b, hb, e⟩ := List.mem_filterMap.mp hp
  cases q : h.get? b with
  | none => rw [q] at e; cases e
  | some o =>
    rw [q] at e
    have e' : (b, o) = p := Option.some.inj e
    subst e'
    exact ⟨hb, q⟩
theorem Inv.pinned {pins : List (Addr × Obj)} {σ : St} {H : Hp} {s : Shared} {fp : List Addr} (I : Inv X pins σ H s) (hf : ∀ b ∈ fp, FpOk X pins H b) (ho : ∀ b ∈ fp, ∃ o, s.heap.get? b = some o ∧ ∀ v, o.data ≠ .cell v) : Inv X (pins ++ pinsAt fp s.heap) σ H s :=
  I.pins_of fun p hp => (List.mem_append.mp hp).elim (fun z => I.pin p (List.mem_append_right _ z)) fun z => by
    obtain ⟨hb, e⟩ := of_pinsAt z
    obtain ⟨f0, f1, f2, _⟩ := hf p.1 hb
    obtain ⟨o, e', d⟩ := ho p.1 hb
    rw [e] at e'; cases e'
    exact ⟨e, f0, f1, f2, d⟩
theorem Inv.unpinned {pins pl : List (Addr × Obj)} {σ : St} {H : Hp} {s : Shared} (I : Inv X (pins ++ pl) σ H s) : Inv X pins σ H s := I.pins_of fun p hp => I.pin p (List.mem_append_right _ (List.mem_append_left _ hp))
theorem ps_for {iter : Expr} {body : List Stmt} {wi : TI} {g : TG} {tb : TS} {pos : Pos} (hp : PassesOwn (model X.prog X.w) X.A X.env X.xe) (hc : X.calm = true) (hi : PI X tg iter wi) (hg : PG X tg g) (hb : PSs X body tb)
    (hs : ∀ x, foldedSetIterable iter X.env x = pure x := by intro _; rfl) : PS X (.For tg iter body [] pos) (tFor wi g tb) := by
  intro pins s σ H D I h
  refine wpAny_For (thn (hi pins s σ H _ I h) fun v s1 h1 => thn h1 fun itv s2 h2 => ?_) hs
  obtain ⟨it, fp, tn, J, H2, e, I2, T, st2, f2, W, ⟨m0, w0⟩, turn⟩ := h2
  subst e
  -- what stays true of the iterator's objects through the loop
  have stat : ∀ {H' : Hp}, (∀ b ∈ fp, H' b = none) → ∀ b ∈ fp, FpOk X pins H' b := fun hn b hb => ⟨hn b hb, (f2 b hb).2⟩
  refine codeAny_forLoop_any (fun n s' => ∃ i σ' H', Inv X pins σ' H' s' ∧ tn i s'.heap ∧ (∀ b ∈ fp, H' b = none) ∧ W i n σ' H') ?_ m0 ⟨0, σ, H2, I2, st2, fun b hb => (f2 b hb).1, w0⟩
  rintro n s3 ⟨i, σ3, H3, I3, st3, fr3, w3⟩
  rcases turn i n σ3 H3 w3 with ⟨stop, qn⟩ | ⟨go, N, hN, step⟩
  · refine wpAny_passesOwn hp (thn (T.done X rfl rfl rfl hc i pins s3 σ3 H3 X.xe I3 (stat fr3) st3 stop) fun r s4 ⟨hr, I4⟩ => ?_)
    subst hr
    exact wpAny_execs_nil ⟨σ3, H3, I4, qn⟩
  · refine wpAny_passesOwn hp (thn (T.item X rfl rfl rfl hc i pins s3 σ3 H3 X.xe I3 (stat fr3) st3 go) fun r s4 ⟨u, hr, h4⟩ => ?_)
    subst hr
    refine wpAny_passesOwn hp (thn h4 fun _ s5 ⟨x, H5, I5, r5, y5, st5, fr5⟩ => ?_)
    have I5' := I5.pinned (stat fr5) (T.obj _ _ st5)
    refine wpAny_passesOwn hp (thn (hg _ s5 σ3 H5 x u _ I5' r5 (step x H5 y5)) fun _ s6 ⟨σ6, H6, I6, q6⟩ => ?_)
    refine wpAny_passesOwn hp (thn (hb _ s6 σ6 H6 _ I6 q6) fun f s7 q7 => ?_)
    have again : ∀ {σ7 : St} {H7 : Hp}, Inv X (pins ++ pinsAt fp s5.heap) σ7 H7 s7 → N σ7 H7 → ∃ m, m < n ∧ ∃ i σ' H', Inv X pins σ' H' s7 ∧ tn i s7.heap ∧ (∀ b ∈ fp, H' b = none) ∧ W i m σ' H' := fun {σ7 H7} I7 n7 => by
      obtain ⟨m', hm, w7⟩ := hN σ7 H7 n7
      refine ⟨m', hm, i + 1, σ7, H7, I7.unpinned, T.keep _ _ _ st5 fun b hb o e => (I7.pin (b, o) (List.mem_append_right _ (List.mem_append_right _ (mem_pinsAt hb e)))).1, fun b hb => ?_, w7⟩
      obtain ⟨o, e, d⟩ := T.obj _ _ st5 b hb
      exact (I7.pin (b, o) (List.mem_append_right _ (List.mem_append_right _ (mem_pinsAt hb e)))).2.1
    cases f with
    | next => obtain ⟨σ7, H7, I7, n7⟩ := q7; exact again I7 n7
    | cont => obtain ⟨σ7, H7, I7, n7⟩ := q7; exact again I7 n7
    | brk => obtain ⟨σ7, H7, I7, q7⟩ := q7; exact ⟨σ7, H7, I7.unpinned, q7⟩
    | ret v => obtain ⟨x7, σ7, H7, I7, r7, q7⟩ := q7; exact ⟨x7, σ7, H7, I7.unpinned, r7, q7⟩
end

/-! ### the forms one uses -/
theorem for_range {lo : Int} {n : Nat} {g : TG} {tb : TS} {D : Ends} {σ : St} {H : Hp} (Pv : Nat → St → Hp → Prop) (h0 : Pv 0 σ H)
    (hs : ∀ i σ H, i < n → Pv i σ H → g (.int (lo + i)) σ H fun σ2 H2 => tb { D with nx := Pv (i + 1), ct := Pv (i + 1), bk := D.nx } σ2 H2) (hd : ∀ σ H, Pv n σ H → D.nx σ H) :
    ∃ W : Nat → Nat → St → Hp → Prop, (∃ m, W 0 m σ H) ∧ ∀ i m σ H, W i m σ H →
      ((Itr lo n).stop i H ∧ D.nx σ H) ∨ ((Itr lo n).go i H ∧ ∃ N : St → Hp → Prop, (∀ σ' H', N σ' H' → ∃ m', m' < m ∧ W (i + 1) m' σ' H') ∧ ∀ x H', (Itr lo n).yld i H x H' → g x σ H' fun σ2 H2 => tb { D with nx := N, ct := N, bk := D.nx } σ2 H2) := by
  refine ⟨fun i m σ H => m = n - i ∧ i ≤ n ∧ Pv i σ H, ⟨n, by simp, Nat.zero_le _, h0⟩, ?_⟩
  rintro i m σ H ⟨rfl, hi, p⟩
  by_cases hlt : i < n
  · refine .inr ⟨hlt, Pv (i + 1), fun σ' H' p' => ⟨n - (i + 1), by omega, rfl, hlt, p'⟩, fun x H' y => ?_⟩
    obtain ⟨e, y⟩ := y
    subst e y
    exact hs i σ _ hlt p
  · have e : i = n := by omega
    subst e
    exact .inl ⟨Nat.le_refl _, hd σ H p⟩
end L2

namespace L2
open PySem PySem.Spec PyProof.Rows

abbrev R2 := V → V → Hp → VK → Prop
/-- a two-place operation on values: f is binaryOp op, inplaceOp op or compareOp op -/
def OpR (X : Cx) (f : Value → Value → Sem Value) (r : R2) : Prop :=
  ∀ (pins : List (Addr × Obj)) (s : Shared) (σ : St) (H : Hp) (x y : V) (v u : Value) (Q : VK), Inv X pins σ H s → RelV x v → RelV y u → r x y H Q →
    wpAny (model X.prog X.w) X.A (f v u) (EP X pins σ Q) X.xe s
/-- a one-place operation -/
def UnR (X : Cx) (f : Value → Sem Value) (r : V → Hp → VK → Prop) : Prop :=
  ∀ (pins : List (Addr × Obj)) (s : Shared) (σ : St) (H : Hp) (x : V) (v : Value) (Q : VK), Inv X pins σ H s → RelV x v → r x H Q →
    wpAny (model X.prog X.w) X.A (f v) (EP X pins σ Q) X.xe s
/-- a call of a value that is known (a builtin, a type) with values -/
def CallR (X : Cx) (f : Value) (r : List V → Hp → VK → Prop) : Prop :=
  ∀ (pins : List (Addr × Obj)) (s : Shared) (σ : St) (H : Hp) (xs : List V) (us : List Value) (Q : VK), Inv X pins σ H s → Vals xs us → r xs H Q →
    wpAny (model X.prog X.w) X.A (call f us) (EP X pins σ Q) X.xe s
/-- a value's truth -/
def TruR (X : Cx) (r : V → Hp → (Bool → Hp → Prop) → Prop) : Prop :=
  ∀ (pins : List (Addr × Obj)) (s : Shared) (σ : St) (H : Hp) (x : V) (v : Value) (Q : Bool → Hp → Prop), Inv X pins σ H s → RelV x v → r x H Q →
    wpAny (model X.prog X.w) X.A (truthy v) (TP X pins σ Q) X.xe s

def tOp (r : R2) (ta tb : TE) : TE := fun σ H Q => ta σ H fun x H1 => tb σ H1 fun y H2 => r x y H2 Q
def tUn (r : V → Hp → VK → Prop) (ta : TE) : TE := fun σ H Q => ta σ H fun x H1 => r x H1 Q
/-- ints in, under C, and a value out -/
def rI (C : Int → Int → Prop) (g : Int → Int → V) : R2 := fun x y H Q => ∃ i j, x = .int i ∧ y = .int j ∧ C i j ∧ Q (g i j) H
def rI0 (g : Int → Int → V) : R2 := fun x y H Q => ∃ i j, x = .int i ∧ y = .int j ∧ Q (g i j) H
def rU (g : Int → V) : V → Hp → VK → Prop := fun x H Q => ∃ i, x = .int i ∧ Q (g i) H

section
variable {X : Cx} {a b c : Expr} {ta tb tc : TE} {pos : Pos}

theorem binT (ha : PE X a ta) (hb : PE X b tb) {pins : List (Addr × Obj)} {s : Shared} {σ : St} {H : Hp} {R : V → V → Hp → Prop} (I : Inv X pins σ H s)
    (h : ta σ H fun x H1 => tb σ H1 fun y H2 => R x y H2) {Q : Value → Shared → Prop} {f : Value → Value → Sem Value}
    (hf : ∀ v u s2 x y H2, Inv X pins σ H2 s2 → RelV x v → RelV y u → R x y H2 → wpAny (model X.prog X.w) X.A (f v u) Q X.xe s2) :
    wpAny (model X.prog X.w) X.A (eval a X.env) (fun v s₁ => wpAny (model X.prog X.w) X.A (eval b X.env) (fun u s₂ => wpAny (model X.prog X.w) X.A (f v u) Q X.xe s₂) X.xe s₁) X.xe s := by
  refine thn (ha pins s σ H _ I h) fun v s1 ⟨x, H1, I1, r1, q1⟩ => ?_
  refine thn (hb pins s1 σ H1 _ I1 q1) fun u s2 ⟨y, H2, I2, r2, q2⟩ => ?_
  exact hf v u s2 x y H2 I2 r1 r2 q2

theorem pe_op {op : Operator} {r : R2} (ho : OpR X (binaryOp op) r) (ha : PE X a ta) (hb : PE X b tb) : PE X (.BinOp a op b pos) (tOp r ta tb) := by
  intro pins s σ H Q I h
  exact wpAny_BinOp (binT ha hb I h fun v u s2 x y H2 I2 rx ry q => ho pins s2 σ H2 x y v u Q I2 rx ry q)
theorem pe_un {op : UnaryOp} {r : V → Hp → VK → Prop} (ho : UnR X (unaryOp op) r) (ha : PE X a ta) : PE X (.UnaryOp op a pos) (tUn r ta) := by
  intro pins s σ H Q I h
  exact UnaryOp_ (thn (ha pins s σ H _ I h) fun v s1 ⟨x, H1, I1, r1, q1⟩ => ho pins s1 σ H1 x v Q I1 r1 q1)
/-! ### ints -/
theorem opI {f : Value → Value → Sem Value} {C : Int → Int → Prop} {g : Int → Int → Int}
    (rule : ∀ (i j : Int) (t u : Tok) (s : Shared) (Q : Value → Shared → Prop) (E : Value → Shared → Prop), C i j → Q (.int (g i j) s.toks) { s with toks := s.toks + 1 } → wpAny (model X.prog X.w) X.A (f (.int i t) (.int j u)) Q E s) :
    OpR X f (rI C fun i j => .int (g i j)) := by
  intro pins s σ H x y v u Q I rx ry h
  obtain ⟨i, j, rfl, rfl, hc, q⟩ := h
  obtain ⟨t, rfl⟩ := rx
  obtain ⟨t', rfl⟩ := ry
  exact rule i j t t' s _ _ hc ⟨.int (g i j), H, I.tok _, ⟨_, rfl⟩, q⟩
theorem opI0 {f : Value → Value → Sem Value} {g : Int → Int → Int}
    (rule : ∀ (i j : Int) (t u : Tok) (s : Shared) (Q : Value → Shared → Prop) (E : Value → Shared → Prop), Q (.int (g i j) s.toks) { s with toks := s.toks + 1 } → wpAny (model X.prog X.w) X.A (f (.int i t) (.int j u)) Q E s) :
    OpR X f (rI0 fun i j => .int (g i j)) := by
  intro pins s σ H x y v u Q I rx ry h
  obtain ⟨i, j, rfl, rfl, q⟩ := h
  obtain ⟨t, rfl⟩ := rx
  obtain ⟨t', rfl⟩ := ry
  exact rule i j t t' s _ _ ⟨.int (g i j), H, I.tok _, ⟨_, rfl⟩, q⟩
theorem opB0 {f : Value → Value → Sem Value} {g : Int → Int → Bool}
    (rule : ∀ (i j : Int) (t u : Tok) (s : Shared) (Q : Value → Shared → Prop) (E : Value → Shared → Prop), Q (.bool (g i j)) s → wpAny (model X.prog X.w) X.A (f (.int i t) (.int j u)) Q E s) :
    OpR X f (rI0 fun i j => .bl (g i j)) := by
  intro pins s σ H x y v u Q I rx ry h
  obtain ⟨i, j, rfl, rfl, q⟩ := h
  obtain ⟨t, rfl⟩ := rx
  obtain ⟨t', rfl⟩ := ry
  exact rule i j t t' s _ _ ⟨.bl (g i j), H, I, rfl, q⟩

def CDiv (i j : Int) : Prop := 0 < j ∧ j < 1073741824
def CDivN (i j : Int) : Prop := j ≠ 0 ∧ j.natAbs < 1073741824
def CPow (i j : Int) : Prop := 0 ≤ j ∧ j ≤ 1000000 ∧ i.natAbs < 2 ^ 64
def CMul (i j : Int) : Prop := (-(2 ^ 64) < i ∧ i < 2 ^ 64) ∨ (-(2 ^ 64) < j ∧ j < 2 ^ 64)
theorem two_pow_nn (k : Nat) : (0 : Int) ≤ 2 ^ k := by
  rw [two_pow_cast]
  exact Int.natCast_nonneg _

theorem op_add : OpR X (binaryOp .Add) (rI0 fun i j => .int (i + j)) := opI0 fun _ _ _ _ _ _ _ q => add_int q
theorem op_sub : OpR X (binaryOp .Sub) (rI0 fun i j => .int (i - j)) := opI0 fun _ _ _ _ _ _ _ q => sub_int q
theorem op_shl : OpR X (binaryOp .LShift) (rI CPow fun i j => .int (i * 2 ^ j.toNat)) := opI fun _ _ _ _ _ _ _ hc q => lshift_int_small hc.1 hc.2.1 hc.2.2 q
theorem op_shr : OpR X (binaryOp .RShift) (rI (fun _ j => 0 ≤ j) fun i j => .int (i / 2 ^ j.toNat)) := opI fun i j _ _ _ _ _ hc q =>
  rshift_int hc (by rw [Int.fdiv_eq_ediv_of_nonneg i (two_pow_nn _)]; exact q)
theorem op_and : OpR X (binaryOp .BitAnd) (rI0 fun i j => .int (Builtin.bitAnd i j)) := opI0 fun _ _ _ _ _ _ _ q => and_int q
theorem unI {f : Value → Sem Value} {g : Int → Int}
    (rule : ∀ (i : Int) (t : Tok) (s : Shared) (Q : Value → Shared → Prop) (E : Value → Shared → Prop), Q (.int (g i) s.toks) { s with toks := s.toks + 1 } → wpAny (model X.prog X.w) X.A (f (.int i t)) Q E s) :
    UnR X f (rU fun i => .int (g i)) := by
  intro pins s σ H x v Q I rx h
  obtain ⟨i, rfl, q⟩ := h
  obtain ⟨t, rfl⟩ := rx
  exact rule i t s _ _ ⟨.int (g i), H, I.tok _, ⟨_, rfl⟩, q⟩
theorem un_neg : UnR X (unaryOp .USub) (rU fun i => .int (-i)) := unI fun _ _ _ _ _ q => neg_int q
theorem un_inv : UnR X (unaryOp .Invert) (rU fun i => .int (Builtin.bitNot i)) := unI fun _ _ _ _ _ q => invert_int q

/-! ### bools among ints: n += (a < b) -/
end

/-! ### comparisons -/
/-- the scalars that == tells apart as data does -/
def scal : V → V → Bool
  | .non, .non => true | .non, .int _ => true | .int _, .non => true | .non, .bl _ => true | .bl _, .non => true | .non, .str _ => true | .str _, .non => true
  | .int _, .int _ => true | .bl _, .bl _ => true | .str _, .str _ => true | .byt _, .byt _ => true
  | .int _, .str _ => true | .str _, .int _ => true | .bl _, .str _ => true | .str _, .bl _ => true
  | _, _ => false
def rEq : R2 := fun x y H Q => scal x y = true ∧ Q (.bl (decide (x = y))) H
def rNe : R2 := fun x y H Q => scal x y = true ∧ Q (.bl (!decide (x = y))) H

theorem dec_int {i j : Int} : decide (V.int i = V.int j) = (i == j) := by
  rw [Bool.eq_iff_iff]
  simp
theorem dec_bl {i j : Bool} : decide (V.bl i = V.bl j) = (i == j) := by
  rw [Bool.eq_iff_iff]
  simp
theorem dec_str {i j : Str} : decide (V.str i = V.str j) = (i == j) := by
  rw [Bool.eq_iff_iff]
  simp
theorem dec_byt {i j : Array UInt8} : decide (V.byt i = V.byt j) = (i.toList == j.toList) := by
  rw [Bool.eq_iff_iff]
  cases i
  cases j
  simp

section
variable {X : Cx} {a b c : Expr} {ta tb tc : TE} {pos : Pos}
theorem fin_bl {pins : List (Addr × Obj)} {σ : St} {H : Hp} {s : Shared} {Q : VK} {k k' : Bool} (I : Inv X pins σ H s) (q : Q (.bl k) H) (e : k = k') : EP X pins σ Q (.bool k') s := by
  subst e
  exact ⟨.bl k, H, I, rfl, q⟩
theorem op_eq : OpR X (compareOp .Eq) rEq := by
  intro pins s σ H x y v u Q I rx ry h
  obtain ⟨hs, q⟩ := h
  cases x with
  | non =>
    cases rx
    cases y with
    | non => cases ry; exact PySem.EqNone.eq_none_none (fin_bl I q (by simp))
    | bl j => cases ry; exact PySem.EqNone.eq_none_bool (fin_bl I q (by simp))
    | int j => obtain ⟨t', rfl⟩ := ry; exact PySem.EqNone.eq_none_int (fin_bl I q (by simp))
    | str j => obtain ⟨t', rfl⟩ := ry; exact PySem.EqNone.eq_none_str (fin_bl I q (by simp))
    | _ => exact absurd (show false = true from hs) Bool.false_ne_true
  | bl i =>
    cases rx
    cases y with
    | non => cases ry; exact PySem.EqNone.eq_bool_none (fin_bl I q (by simp))
    | bl j => cases ry; exact eq_bool (fin_bl I q dec_bl)
    | str j => obtain ⟨t', rfl⟩ := ry; exact PySem.EqMixed.eq_bool_str (fin_bl I q (by simp))
    | _ => exact absurd (show false = true from hs) Bool.false_ne_true
  | int i =>
    obtain ⟨t, rfl⟩ := rx
    cases y with
    | non => cases ry; exact PySem.EqNone.eq_int_none (fin_bl I q (by simp))
    | int j => obtain ⟨t', rfl⟩ := ry; exact eq_int (fin_bl I q dec_int)
    | str j => obtain ⟨t', rfl⟩ := ry; exact PySem.EqMixed.eq_int_str (fin_bl I q (by simp))
    | _ => exact absurd (show false = true from hs) Bool.false_ne_true
  | str i =>
    obtain ⟨t, rfl⟩ := rx
    cases y with
    | non => cases ry; exact PySem.EqNone.eq_str_none (fin_bl I q (by simp))
    | bl j => cases ry; exact PySem.EqMixed.eq_str_bool (fin_bl I q (by simp))
    | int j => obtain ⟨t', rfl⟩ := ry; exact PySem.EqMixed.eq_str_int (fin_bl I q (by simp))
    | str j => obtain ⟨t', rfl⟩ := ry; exact eq_str (fin_bl I q dec_str)
    | _ => exact absurd (show false = true from hs) Bool.false_ne_true
  | byt i =>
    obtain ⟨t, rfl⟩ := rx
    cases y with
    | byt j => obtain ⟨t', rfl⟩ := ry; exact PySem.W.eq_bytes (fin_bl I q dec_byt)
    | _ => exact absurd (show false = true from hs) Bool.false_ne_true
  | _ => cases y <;> exact absurd (show false = true from hs) Bool.false_ne_true
theorem op_ne : OpR X (compareOp .NotEq) rNe := by
  intro pins s σ H x y v u Q I rx ry h
  obtain ⟨hs, q⟩ := h
  cases x with
  | non =>
    cases rx
    cases y with
    | non => cases ry; exact PySem.EqNone.ne_none_none (fin_bl I q (by simp))
    | bl j => cases ry; exact PySem.EqNone.ne_none_bool (fin_bl I q (by simp))
    | int j => obtain ⟨t', rfl⟩ := ry; exact PySem.EqNone.ne_none_int (fin_bl I q (by simp))
    | str j => obtain ⟨t', rfl⟩ := ry; exact PySem.EqNone.ne_none_str (fin_bl I q (by simp))
    | _ => exact absurd (show false = true from hs) Bool.false_ne_true
  | bl i =>
    cases rx
    cases y with
    | non => cases ry; exact PySem.EqNone.ne_bool_none (fin_bl I q (by simp))
    | bl j => cases ry; exact ne_bool (fin_bl I q (congrArg not dec_bl))
    | str j => obtain ⟨t', rfl⟩ := ry; exact PySem.EqMixed.ne_bool_str (fin_bl I q (by simp))
    | _ => exact absurd (show false = true from hs) Bool.false_ne_true
  | int i =>
    obtain ⟨t, rfl⟩ := rx
    cases y with
    | non => cases ry; exact PySem.EqNone.ne_int_none (fin_bl I q (by simp))
    | int j => obtain ⟨t', rfl⟩ := ry; exact ne_int (fin_bl I q (congrArg not dec_int))
    | str j => obtain ⟨t', rfl⟩ := ry; exact PySem.EqMixed.ne_int_str (fin_bl I q (by simp))
    | _ => exact absurd (show false = true from hs) Bool.false_ne_true
  | str i =>
    obtain ⟨t, rfl⟩ := rx
    cases y with
    | non => cases ry; exact PySem.EqNone.ne_str_none (fin_bl I q (by simp))
    | bl j => cases ry; exact PySem.EqMixed.ne_str_bool (fin_bl I q (by simp))
    | int j => obtain ⟨t', rfl⟩ := ry; exact PySem.EqMixed.ne_str_int (fin_bl I q (by simp))
    | str j => obtain ⟨t', rfl⟩ := ry; exact ne_str (fin_bl I q (congrArg not dec_str))
    | _ => exact absurd (show false = true from hs) Bool.false_ne_true
  | byt i =>
    obtain ⟨t, rfl⟩ := rx
    cases y with
    | byt j => obtain ⟨t', rfl⟩ := ry; exact PySem.W.ne_bytes (fin_bl I q (congrArg not dec_byt))
    | _ => exact absurd (show false = true from hs) Bool.false_ne_true
  | _ => cases y <;> exact absurd (show false = true from hs) Bool.false_ne_true

theorem op_lt : OpR X (compareOp .Lt) (rI0 fun i j => .bl (decide (i < j))) := opB0 fun _ _ _ _ _ _ _ q => lt_int q
theorem op_gt : OpR X (compareOp .Gt) (rI0 fun i j => .bl (decide (j < i))) := opB0 fun _ _ _ _ _ _ _ q => gt_int q
/-- is, is not of two objects that are tracked lists or instances -/
def isObj : HO → Bool
  | .lst _ => true
  | .ins _ _ _ => true
  | _ => false
theorem nomark (b : Expr) {op : CmpOp} (h : op ≠ .In := by decide) (h2 : op ≠ .NotIn := by decide) : behindInMarks op b = false := by
  have e1 : (op == CmpOp.In) = false := by cases op <;> first | rfl | exact absurd rfl h
  have e2 : (op == CmpOp.NotIn) = false := by cases op <;> first | rfl | exact absurd rfl h2
  cases b <;> simp [behindInMarks, e1, e2]
/-- a comparison as a value; hm: nomark b, or (for in, not in) by with_unfolding_all rfl -/
theorem pe_cmpR {op : CmpOp} {r : R2} (ho : OpR X (compareOp op) r) (ha : PE X a ta) (hb : PE X b tb) (hm : behindInMarks op b = false) : PE X (.Compare a [op] [b] pos) (tOp r ta tb) := by
  intro pins s σ H Q I h
  exact wpAny_Compare1 (binT ha hb I h fun v u s2 x y H2 I2 rx ry q => ho pins s2 σ H2 x y v u Q I2 rx ry q) hm
/-- a reading of a value as a test -/
def tTest (t : TE) : TT := fun σ H Q => t σ H fun x H' => ∃ k, x = .bl k ∧ Q k H'
theorem pt_cmpR {op : CmpOp} {r : R2} (ho : OpR X (compareOp op) r) (ha : PE X a ta) (hb : PE X b tb) (hm : behindInMarks op b = false) : PT X (.Compare a [op] [b] pos) (tTest (tOp r ta tb)) := by
  intro pins s σ H Q I h
  refine wpAny_isTrue_Compare1 (thn (ha pins s σ H _ I h) fun v s1 ⟨x, H1, I1, r1, q1⟩ => thn (hb pins s1 σ H1 _ I1 q1) fun u s2 ⟨y, H2, I2, r2, q2⟩ =>
    thn (ho pins s2 σ H2 x y v u _ I2 r1 r2 q2) fun c s3 ⟨z, H3, I3, r3, k, e, q3⟩ => ?_) hm
  subst e
  cases r3
  exact wpAny_truthy_bool ⟨H3, I3, q3⟩
/-- a op1 b op2 c -/
def tChain (r r' : R2) (ta tb tc : TE) : TE := fun σ H Q => ta σ H fun x H1 => tb σ H1 fun y H2 => r x y H2 fun z H3 => ∃ k, z = .bl k ∧
  (if k = true then tc σ H3 fun w' H4 => r' y w' H4 Q else Q (.bl false) H3)
/-! ### truth -/
/-- a value's truth by the abstract heap -/
def TruV (K : PySem.W.Frag) (x : V) (H : Hp) (k : Bool) : Prop :=
  match x with
  | .non => k = false
  | .bl b => k = b
  | .int i => k = (i != 0)
  | .str y => y.length ≤ sizeLine ∧ k = ((y.length : Int) != 0)
  | .byt y => y.size ≤ sizeLine ∧ k = ((y.size : Int) != 0)
  | .ref p => (∃ xs, SqL K H p xs ∧ k = !xs.isEmpty) ∨ (∃ xs, SqT K H p xs ∧ k = !xs.isEmpty) ∨ ∃ kvs, H p = some (.dK kvs) ∧ k = !kvs.isEmpty
  | _ => False
theorem line63 : (sizeLine : Nat) < 2 ^ 63 := by rw [sizeLine_eq]; decide
/-! ### strs and bytes -/
def PlainIxT (b : Expr) : Prop := ∀ o i, subscripted b false o i = operate [o, i] (getItem o i)
/-! ### scalar builtins, by CallR -/
theorem vals1 {x : V} {us : List Value} (r : Vals [x] us) : ∃ u, us = [u] ∧ RelV x u := by
  cases r with
  | cons r1 r2 => cases r2; exact ⟨_, rfl, r1⟩
/-- len of a str, a bytes, a list, a tuple -/
def LenV (K : PySem.W.Frag) (x : V) (H : Hp) (n : Nat) : Prop :=
  match x with
  | .str y => y.length ≤ sizeLine ∧ n = y.length
  | .byt y => y.size ≤ sizeLine ∧ n = y.size
  | .ref p => (∃ xs, SqL K H p xs ∧ n = xs.length) ∨ ∃ xs, SqT K H p xs ∧ n = xs.length
  | _ => False
end
end L2

namespace L2
open PySem PySem.Spec PyProof.Rows

/-! ### an instance, its attributes a map -/
structure ObjM (h : Heap) (x dx C : Addr) (mA : Str → Option Value) : Prop where
  obj : h.get? x = some (PySem.W.instObj C dx)
  ns : h.Ns1 dx mA
  ne : dx ≠ x

section
variable {prog : Program} {w : World} {A : Around} {E : Value → Shared → Prop} {s : Shared} {K : PySem.W.Frag} {x dx C f : Addr} {mA : Str → Option Value} {name : Str} {v : Value}

end

/-! ### the attributes as a list of pairs -/
def putF (f : Str) (v : V) : List (Str × V) → List (Str × V)
  | [] => [(f, v)]
  | (g, x) :: r => if g = f then (g, v) :: r else (g, x) :: putF f v r
section
variable {P : Program} {w : World} {H H' : Hp} {h h' : Heap} {a C dx : Addr} {fs fs' : List (Str × V)}
end

/-! ### what of the text a class must have -/
structure Cls (K : PySem.W.Frag) (C : Addr) : Prop where
  pg : PySem.W.plainGet K C Str.empty = true
  hd : PySem.W.hasDictIn K C = true
  po : PySem.W.plainOver K C = true
  sa : PySem.W.findIn K (.ref C) "__setattr__" = some (some (.builtin "object.__setattr__"))
/-- no class of it has the name -/
def NoAttr (K : PySem.W.Frag) (C : Addr) (f : Str) : Prop := PySem.W.findIn K (.ref C) f = some none
/-- a constant of the class -/
structure Con (K : PySem.W.Frag) (C : Addr) (f : Str) (v : V) (u : Value) : Prop where
  at_ : PySem.W.findIn K (.ref C) f = some (some u)
  rel : RelV v u
  get : PySem.W.specialIn K u "__get__" = some none
  cp : PySem.W.copiedNames.contains f = false
/-- a method: a plain def of the class or of one above it -/
structure Meth (K : PySem.W.Frag) (C : Addr) (m : Str) (f : Addr) : Prop where
  at_ : PySem.W.findIn K (.ref C) m = some (some (.ref f))
  fn : PySem.W.isFn K (.ref f) = true
  kp : PySem.W.keepIn K (.ref f) = true

section
variable {X : Cx} {pins : List (Addr × Obj)} {σ : St} {H : Hp} {s : Shared} {a C dx : Addr} {fs : List (Str × V)} {f : Str} {v : V} {A : Around} {E : Value → Shared → Prop}

end

/-! ### readings and rules -/
/-- e.f, an attribute of the instance -/
def tFld (K : PySem.W.Frag) (ta : TE) (f : Str) : TE := fun σ H Q => ta σ H fun x H1 => ∃ a C dx fs v, x = .ref a ∧ H1 a = some (.ins C dx fs) ∧ Cls K C ∧ NoAttr K C f ∧ fs.lookup f = some v ∧ Q v H1
/-- e.f, a constant of the class -/
def tCon (K : PySem.W.Frag) (ta : TE) (f : Str) : TE := fun σ H Q => ta σ H fun x H1 => ∃ a C dx fs v u, x = .ref a ∧ H1 a = some (.ins C dx fs) ∧ Cls K C ∧ Con K C f v u ∧ fs.lookup f = none ∧ Q v H1
/-- e.f = value -/
def sFld (K : PySem.W.Frag) (ta tv : TE) (f : Str) : TS := fun D σ H => tv σ H fun y H1 => ta σ H1 fun x H2 => ∃ a C dx fs, x = .ref a ∧ H2 a = some (.ins C dx fs) ∧ Cls K C ∧ NoAttr K C f ∧ fs.length < 1000 ∧
  D.nx σ (upd H2 a (.ins C dx (putF f y fs)))
/-- an augmented operator on two values -/
def InOp (X : Cx) (op : Operator) (rd : V → V → Hp → VK → Prop) : Prop :=
  ∀ (pins : List (Addr × Obj)) (s : Shared) (σ : St) (H : Hp) (x y : V) (u v : Value) (Q : VK), Inv X pins σ H s → RelV x u → RelV y v → rd x y H Q → wpAny (model X.prog X.w) X.A (inplaceOp op u v) (EP X pins σ Q) X.xe s
/-- e.f op= value -/
def sFldAug (K : PySem.W.Frag) (ta tv : TE) (rd : V → V → Hp → VK → Prop) (f : Str) : TS := fun D σ H => ta σ H fun x H1 => ∃ a C dx fs v, x = .ref a ∧ H1 a = some (.ins C dx fs) ∧ Cls K C ∧ NoAttr K C f ∧ fs.lookup f = some v ∧
  tv σ H1 fun y H2 => rd v y H2 fun z H3 => ∃ dx' fs', H3 a = some (.ins C dx' fs') ∧ fs'.length < 1000 ∧ D.nx σ (upd H3 a (.ins C dx' (putF f z fs')))

section
variable {X : Cx} {o e value : Expr} {f : Str} {pos pos' tpos : Pos} {ta tv : TE}
def rAdd : V → V → Hp → VK → Prop := fun x y H Q => ∃ i j, x = .int i ∧ y = .int j ∧ Q (.int (i + j)) H
def rSub : V → V → Hp → VK → Prop := fun x y H Q => ∃ i j, x = .int i ∧ y = .int j ∧ Q (.int (i - j)) H
end

/-! ### isinstance -/
section
variable {X : Cx} {pins : List (Addr × Obj)} {σ : St} {H : Hp} {s : Shared} {A : Around} {E : Value → Shared → Prop} {Q : Value → Shared → Prop} {c : Value} {b : Bool}
/-- the type of a value, as the fragment's deciders take it; for an instance its class -/
inductive TyOf (K : PySem.W.Frag) (H : Hp) : V → Value → Prop where
  | non : TyOf K H .non (.type "NoneType")
  | bl (x : Bool) : TyOf K H (.bl x) (.type "bool")
  | int (i : Int) : TyOf K H (.int i) (.type "int")
  | str (x : Str) : TyOf K H (.str x) (.type "str")
  | flt (x : UInt64) : TyOf K H (.flt x) (.type "float")
  | lst {a : Addr} {xs : List V} (e : H a = some (.lst xs)) : TyOf K H (.ref a) (.type "list")
  | frz {a : Addr} {o : Obj} {xs : List V} (e : H a = some (.frz o (.lst xs))) : TyOf K H (.ref a) (.type "list")
  | tup {a : Addr} {xs : List V} (e : H a = some (.tup xs)) : TyOf K H (.ref a) (.type "tuple")
  | dK {a : Addr} {kvs : List (Key × V)} (e : H a = some (.dK kvs)) : TyOf K H (.ref a) (.type "dict")
  | dT {a : Addr} {kvs : List (List Key × V)} (e : H a = some (.dT kvs)) : TyOf K H (.ref a) (.type "dict")
  | ins {a C dx : Addr} {fs : List (Str × V)} (e : H a = some (.ins C dx fs)) (cl : Cls K C) (ha : PySem.W.findIn K (.ref C) "__class__" = some (some (.builtin "object.__class__")))
      (hn : PySem.W.specialIn K (.builtin "object.__class__") "__get__" = some (some (.builtin "getset_descriptor.__get__"))) (htk : PySem.W.takesIn K (.builtin "object.__class__") = some true)
      (hm : PySem.W.mroIn K C (.type "object") = some true) : TyOf K H (.ref a) (.ref C)
end
end L2

namespace L2
open PySem PySem.Spec PyProof.Rows

/-! ### room -/
structure Room (k : Nat) (A : Around) : Prop where
  hd : A.handled = none
  dp : A.depth + 3 * k + 5 < recursionLimit
  un : A.units + 16 * k + 200 < cLine
theorem Room.mono {j k : Nat} {A : Around} (r : Room k A) (h : j ≤ k) : Room j A := ⟨r.hd, by have := r.dp; omega, by have := r.un; omega⟩
theorem Room.deeper {k : Nat} {A : Around} (r : Room (k + 1) A) (env : Env) : Room k (A.deeper env) :=
  ⟨r.hd, by have := r.dp; show A.depth + 1 + 3 * k + 5 < _; omega, by have := r.un; show A.units + 3 + 16 * k + 200 < _; omega⟩
theorem Room.depth {k : Nat} {A : Around} (r : Room k A) : A.depth < recursionLimit := by have := r.dp; omega
theorem Room.units {k : Nat} {A : Around} (r : Room k A) : A.units + 64 < cLine := by have := r.un; omega
/-! ### argument lists and displays -/
def tNil : TA := fun _ H Q => Q [] H
def tCons (ta : TE) (tr : TA) : TA := fun σ H Q => ta σ H fun x H1 => tr σ H1 fun xs H2 => Q (x :: xs) H2
section
variable {X : Cx} {e : Expr} {es : List Expr} {te : TE} {t : TA} {pos : Pos}
theorem pa_nil : PA X [] tNil := fun _ _ _ _ H Q I h => Calls.spliced_nil ⟨[], H, I, .nil, h⟩
theorem pa_cons (ha : PE X e te) (hr : PA X es t) (hs : starEach (e :: es) X.env = (false, eval e X.env) :: starEach es X.env := by rfl) : PA X (e :: es) (tCons te t) := by
  intro pos pins s σ H Q I h
  rw [hs]
  show wpAny _ _ (spliced ((false, eval e X.env) :: backTo pos (starEach es X.env))) _ _ s
  refine Calls.spliced_cons (thn (ha pins s σ H _ I h) fun u s1 ⟨x, H1, I1, r1, q1⟩ => ?_)
  exact thn (hr pos pins s1 σ H1 _ I1 q1) fun us s2 ⟨xs, H2, I2, r2, q2⟩ => ⟨x :: xs, H2, I2, .cons r1 r2, q2⟩

/-- a tuple, a list of written items -/
def tTup (t : TA) : TE := fun σ H Q => t σ H fun xs H1 => xs.length ≤ sizeLine ∧ ∀ p, H1 p = none → Q (.ref p) (upd H1 p (.tup xs))
def tLst (t : TA) : TE := fun σ H Q => t σ H fun xs H1 => xs.length ≤ sizeLine ∧ ∀ p, H1 p = none → Q (.ref p) (upd H1 p (.lst xs))
theorem pe_tup {x1} (h : PA X es t) : PE X (.Tuple es x1 pos) (tTup t) := by
  intro pins s σ H Q I hq
  refine wpAny_Tuple_spliced (thn (h pos pins s σ H _ I hq) fun us s1 ⟨xs, H1, I1, r, z, q⟩ => ⟨by rw [← r.length]; exact z, ?_⟩)
  have hf : H1 s1.heap.objs.size = none := I1.hok.fresh (Nat.le_refl _)
  refine ⟨.ref s1.heap.objs.size, upd H1 s1.heap.objs.size (.tup xs), I1.laid (t' := s1.toks) (fun b u e => Heap.get?_push_of_some _ e) (Nat.le_refl _) ?_, rfl, q _ hf⟩
  exact ⟨z, us, r, ⟨_, Heap.get?_push_size _ rfl, rfl, _, rfl⟩⟩
theorem pe_lst (h : PA X es t) : PE X (.List es pos) (tLst t) := by
  intro pins s σ H Q I hq
  refine wpAny_List_spliced (thn (h pos pins s σ H _ I hq) fun us s1 ⟨xs, H1, I1, r, z, q⟩ => ⟨by rw [← r.length]; exact z, ?_⟩)
  have hf : H1 s1.heap.objs.size = none := I1.hok.fresh (Nat.le_refl _)
  refine ⟨.ref s1.heap.objs.size, upd H1 s1.heap.objs.size (.lst xs), I1.laid (t' := s1.toks) (fun b u e => Heap.get?_push_of_some _ e) (Nat.le_refl _) ?_, rfl, q _ hf⟩
  exact ⟨z, us, 0, r, Heap.get?_push_size _ rfl⟩
end

/-! ### what a def promises -/
/-- a def's promise: the bound arguments in the parameters' order, the heap, the wanted end, the wanted exception -/
abbrev Sp := List V → Hp → VK → XK → Prop
/-- how an exception lies behind a call (file 08 gives it): the callers' frames, abstract heap and state ahead of the call, the wish, the exception, the state -/
abbrev CXT := List Env → Hp → Shared → XK → Value → Shared → Prop

/-- the state at a call -/
structure Env0 (P : Program) (w : World) (K : PySem.W.Frag) (mg : Str → Option Value) (base : Heap) (A : Around) (outer : List Env) (s : Shared) (H : Hp) : Prop where
  frames : A.frames = some outer
  mod : Mod K mg base
  bs : ∀ b o, base.get? b = some o → s.heap.get? b = some o ∧ H b = none
  bsz : base.objs.size ≤ s.heap.objs.size
  funs : s.heap.FunFrames base outer
  frf : ∀ b ∈ frs outer, H b = none
  hok : HOk P w H s.heap
  bare : AllBare s.gens
/-- a call's end -/
def CE (outer : List Env) (P : Program) (w : World) (H : Hp) (s : Shared) (Q : VK) (u : Value) (s' : Shared) : Prop :=
  ∃ v H', s'.os = s.os ∧ AllBare s'.gens ∧ Un (frs outer) [] H H' s.heap s'.heap ∧ HOk P w H' s'.heap ∧ RelV v u ∧ Q v H'
def CR (CX : CXT) (outer : List Env) (P : Program) (w : World) (H : Hp) (s : Shared) (Q : VK) (E : XK) (r : Result) (s' : Shared) : Prop :=
  match r with
  | .ok (.ret u) => CE outer P w H s Q u s'
  | .ok _ => False
  | .error e => CX outer H s E e s'
structure FnOk (P : Program) (w : World) (K : PySem.W.Frag) (mg : Str → Option Value) (base : Heap) (CX : CXT) (k : Nat) (f : Addr) (fd : FuncData) (ps : List Str) (sp : Sp) : Prop where
  len : ∀ vs H Q E, sp vs H Q E → vs.length = ps.length
  run : ∀ (A : Around) (outer : List Env) (s : Shared) (H : Hp) (args : Args) (us : List Value) (vs : List V) (Q : VK) (E : XK), Room k A → Env0 P w K mg base A outer s H → BindsTo s fd args (ps.zip us) → Vals vs us → sp vs H Q E →
    codeAny (model P w) A (.call (.ref f) args) (CR CX outer P w H s Q E) s
section
variable {X : Cx} {pins : List (Addr × Obj)} {σ : St} {H : Hp} {s s' : Shared}
/-- from a body: what a callee wants -/
theorem Inv.env0 (I : Inv X pins σ H s) : Env0 X.prog X.w X.K X.mg X.base X.A X.stack s H :=
  ⟨I.ok.frames, I.ok.mod, I.bs, Nat.le_trans I.ok.bsz I.sz, I.stack, I.stkFree, I.hok, I.bare⟩
/-- behind a call -/
theorem Inv.after {Q : VK} {u : Value} (I : Inv X pins σ H s) (h : CE X.stack X.prog X.w H s Q u s') : EP X pins σ Q u s' := by
  obtain ⟨v, H', os, bare, un, hok, r, q⟩ := h
  obtain ⟨hh, g, d, t, os'⟩ := s'
  obtain rfl : os' = s.os := os
  exact ⟨v, H', I.call (h' := hh) (g' := g) (d' := d) (t' := t) (ch := []) un hok bare (fun b z => absurd z (by simp)), r, q⟩
end

/-! ### calls -/
/-- f(..): the written arguments, then the defaults dvs; E: what is wanted of an exception -/
def tCall (sp : Sp) (dvs : List V) (E : XK) (t : TA) : TE := fun σ H Q => t σ H fun vs H1 => sp (vs ++ dvs) H1 Q E
/-- o.m(..) of an instance of the class at C -/
def tMeth (C : Addr) (m : Str) (sp : Sp) (dvs : List V) (E : XK) (ta : TE) (t : TA) : TE := fun σ H Q => ta σ H fun x H1 => ∃ a dx fs, x = .ref a ∧ H1 a = some (.ins C dx fs) ∧ fs.lookup m = none ∧
  t σ H1 fun vs H2 => sp (x :: (vs ++ dvs)) H2 Q E
/-- C(..): a new instance and its dict, then __init__ -/
def tMake (C : Addr) (sp : Sp) (dvs : List V) (E : XK) (t : TA) : TE := fun σ H Q => t σ H fun vs H1 => ∀ x dx, H1 x = none → H1 dx = none → dx ≠ x →
  sp (.ref x :: (vs ++ dvs)) (upd (upd H1 dx (.own x)) x (.ins C dx [])) (fun v H2 => v = .non ∧ Q (.ref x) H2) E

/-- how the parameters are bound: us the positional arguments, kw the keywords' values by name, ds the defaults that fill up -/
def Binds (K : PySem.W.Frag) (fd : FuncData) (ps : List Str) (ds : List Value) : Prop :=
  ∀ (s : Shared) (us : List Value), K.In s.heap → (us ++ ds).length = ps.length → BindsTo s fd ⟨us, []⟩ (ps.zip (us ++ ds))
/-- every parameter is given -/
theorem Binds.all {K : PySem.W.Frag} {fd : FuncData} {ps : List Str} (h : ∀ us : List Value, us.length = ps.length → bindArgs fd ⟨us, []⟩ = pure (ps.zip us)) : Binds K fd ps [] := fun s us _ hl => by
  rw [List.append_nil] at hl ⊢
  exact .of_eq (h us hl)

/-- an exception of a callee reaches what this body wants of exceptions -/
def Passes (CX : CXT) (X : Cx) (E : XK) : Prop := ∀ (pins : List (Addr × Obj)) (σ : St) (H : Hp) (s : Shared) (e : Value) (s' : Shared), Inv X pins σ H s → CX X.stack H s E e s' → X.xe e s'

section
variable {X : Cx} {CX : CXT} {k : Nat} {f C : Addr} {fd : FuncData} {ps : List Str} {sp : Sp} {dvs : List V} {ds : List Value} {E : XK} {x m : Str} {p pos apos : Pos} {e o : Expr} {es : List Expr} {ta : TE} {t : TA}

/-- the callee runs -/
theorem run_fn {pins : List (Addr × Obj)} {σ : St} {H : Hp} {s : Shared} {Q : VK} {us : List Value} {vs : List V} (F : FnOk X.prog X.w X.K X.mg X.base CX k f fd ps sp) (hr : Room k X.A) (hb : Binds X.K fd ps ds) (hd : Vals dvs ds) (hx : Passes CX X E)
    (I : Inv X pins σ H s) (r : Vals vs us) (h : sp (vs ++ dvs) H Q E) : wpAny (model X.prog X.w) X.A (call (.ref f) us) (EP X pins σ Q) X.xe s := by
  have r2 : Vals (vs ++ dvs) (us ++ ds) := r.append hd
  have hl : (us ++ ds).length = ps.length := by rw [← r2.length]; exact F.len _ _ _ _ h
  refine wpAny_call (codeAny_mono (F.run X.A X.stack s H ⟨us, []⟩ (us ++ ds) (vs ++ dvs) Q E hr I.env0 (hb s us I.kIn hl) r2 h) fun r s' hq => ?_)
  cases r with
  | error e => exact hx pins σ H s e s' I hq
  | ok fl =>
    cases fl with
    | ret u => exact I.after hq
    | next => exact False.elim hq
    | brk => exact False.elim hq
    | cont => exact False.elim hq

theorem pe_call (F : FnOk X.prog X.w X.K X.mg X.base CX k f fd ps sp) (hr : Room k X.A) (hg : Gl X x) (hm : X.mg x = some (.ref f)) (hk : PySem.W.keepIn X.K (.ref f) = true) (hb : Binds X.K fd ps ds) (hd : Vals dvs ds) (hx : Passes CX X E)
    (ha : PA X (e :: es) t) (hdb : (x == ("__debug__" : Str)) = false := by decide) (he : starEach (e :: es) X.env = (false, eval e X.env) :: starEach es X.env := by rfl) (hpl : (backTo pos (starEach es X.env)).any (·.1) = false := by rfl) :
    PE X (.Call (.Name x p) (e :: es) [] pos) (tCall sp dvs E t) := by
  intro pins s σ H Q I h
  refine wpAny_Call_Name_kw (ld_glob I hg hm ?_ hdb)
  refine PySem.W.callWith_K (h₀ := X.base) I.ok.mod.kin hk (thn (ha pos pins s σ H _ I h) fun us s1 ⟨vs, H1, I1, r, q⟩ => ⟨I1.kIn, ?_⟩) he hpl
  exact run_fn F hr hb hd hx I1 r q
/-- what a class must have to be made -/
structure Mk (K : PySem.W.Frag) (C f : Addr) : Prop where
  makes : PySem.W.makesIn K C = true
  init : PySem.W.findIn K (.ref C) "__init__" = some (some (.ref f))
  fn : PySem.W.isFn K (.ref f) = true
  kp : PySem.W.keepIn K (.ref C) = true

end

/-! ### keywords -/
/-- the values of the keywords, from the left -/
def PK (X : Cx) (kws : List Keyword) (t : TA) : Prop :=
  ∀ (pos : Pos) (pins : List (Addr × Obj)) (s : Shared) (σ : St) (H : Hp) (Q : List V → Hp → Prop), Inv X pins σ H s → t σ H Q → wpAny (model X.prog X.w) X.A (evalAll ((backToKw pos (keywordEach kws X.env)).map (·.2))) (AP X pins σ Q) X.xe s
section
variable {X : Cx} {CX : CXT} {k : Nat} {f C : Addr} {fd : FuncData} {ps ks : List Str} {sp : Sp} {E : XK} {x m : Str} {p pos apos kpos : Pos} {e o : Expr} {es : List Expr} {kws : List Keyword} {te ta : TE} {t tk : TA} {nm : Option Str}
/-- how a call with keywords binds: g puts the positional values us and the keywords' values ws (names ks) in the parameters' order, defaults among them -/
structure KBinds (K : PySem.W.Frag) (fd : FuncData) (ps ks : List Str) (g : List Value → List Value → List Value) (gV : List V → List V → List V) : Prop where
  to : ∀ (s : Shared) (us ws : List Value), K.In s.heap → (g us ws).length = ps.length → BindsTo s fd ⟨us, ks.zip ws⟩ (ps.zip (g us ws))
  rel : ∀ {vs : List V} {us : List Value} {zs : List V} {ws : List Value}, Vals vs us → Vals zs ws → Vals (gV vs zs) (g us ws)
def tCallK (sp : Sp) (gV : List V → List V → List V) (E : XK) (t tk : TA) : TE := fun σ H Q => t σ H fun vs H1 => tk σ H1 fun zs H2 => sp (gV vs zs) H2 Q E
variable {g : List Value → List Value → List Value} {gV : List V → List V → List V}
end

/-! ### a def's body keeps its promise -/
/-- names: the parameters first -/
structure FnScope (N P : List Str) (sc : Scope) : Prop where
  kind : sc.kind = .function
  co : sc.isCoroutine = false
  gen : sc.isGenerator = false
  nd : N.Nodup
  pre : N.take P.length = P
  par : ∀ x ∈ P, sc.names.lookup x = some .local ∨ sc.names.lookup x = some .cell
  nofree : ∀ y ∈ sc.names, y.2 ≠ .free

theorem bindL_out {kindOf : Str → Option NameKind} {x : Str} : ∀ {binds : List (Str × Value)} {m : Str → Option Value}, (∀ v, (x, v) ∉ binds) → bindL kindOf binds m x = m x
  | [], _, _ => rfl
  | (n, v) :: r, m, h => by
    unfold bindL
    rw [bindL_out fun w hw => h w (List.mem_cons_of_mem _ hw)]
    split
    · have : x ≠ n := by rintro rfl; exact h v List.mem_cons_self
      simp [this]
    · rfl
theorem bindC_out {kindOf : Str → Option NameKind} {x : Str} : ∀ {binds : List (Str × Value)} {m : Str → Option Value}, (∀ v, (x, v) ∉ binds) → bindC kindOf binds m x = m x
  | [], _, _ => rfl
  | (n, v) :: r, m, h => by
    unfold bindC
    rw [bindC_out fun w hw => h w (List.mem_cons_of_mem _ hw)]
    split
    · rfl
    · have : x ≠ n := by rintro rfl; exact h v List.mem_cons_self
      simp [this]
theorem bindL_get {kindOf : Str → Option NameKind} {x : Str} {v : Value} : ∀ {P : List Str} {vs : List Value} {i : Nat} {m : Str → Option Value}, P.Nodup → P[i]? = some x → vs[i]? = some v → kindOf x = some .local →
    bindL kindOf (P.zip vs) m x = some v
  | [], _, _, _, _, h, _, _ => by simp at h
  | _ :: _, [], _, _, _, _, h, _ => by simp at h
  | p :: P, w :: vs, 0, m, nd, h1, h2, hk => by
    simp at h1 h2; subst h1; subst h2
    show bindL kindOf ((p, w) :: P.zip vs) m p = _
    unfold bindL
    rw [bindL_out fun v hv => (List.nodup_cons.mp nd).1 (List.of_mem_zip hv).1, if_pos hk]
    simp
  | p :: P, w :: vs, i + 1, m, nd, h1, h2, hk => by
    show bindL kindOf ((p, w) :: P.zip vs) m x = _
    unfold bindL
    exact bindL_get (i := i) (List.nodup_cons.mp nd).2 (by simpa using h1) (by simpa using h2) hk
theorem bindC_get {kindOf : Str → Option NameKind} {x : Str} {v : Value} : ∀ {P : List Str} {vs : List Value} {i : Nat} {m : Str → Option Value}, P.Nodup → P[i]? = some x → vs[i]? = some v → kindOf x ≠ some .local →
    bindC kindOf (P.zip vs) m x = some v
  | [], _, _, _, _, h, _, _ => by simp at h
  | _ :: _, [], _, _, _, _, h, _ => by simp at h
  | p :: P, w :: vs, 0, m, nd, h1, h2, hk => by
    simp at h1 h2; subst h1; subst h2
    show bindC kindOf ((p, w) :: P.zip vs) m p = _
    unfold bindC
    rw [bindC_out fun v hv => (List.nodup_cons.mp nd).1 (List.of_mem_zip hv).1, if_neg hk]
    simp
  | p :: P, w :: vs, i + 1, m, nd, h1, h2, hk => by
    show bindC kindOf ((p, w) :: P.zip vs) m x = _
    unfold bindC
    exact bindC_get (i := i) (List.nodup_cons.mp nd).2 (by simpa using h1) (by simpa using h2) hk

/-- the names' values at the entry -/
def start (N : List Str) (vs : List V) : St := vs.map some ++ List.replicate (N.length - vs.length) none

/-- the context of a def's body, at its entry; an exception leaves the frame, then lies as CX says -/
def cxOf (CX : CXT) (P : Program) (w : World) (K : PySem.W.Frag) (mg : Str → Option Value) (base : Heap) (N : List Str) (qual : Str) (scope : Scope) (f : Addr) (cd : Value) (A : Around) (outer : List Env) (s : Shared) (H : Hp) (E : XK) : Cx where
  prog := P
  w := w
  K := K
  mg := mg
  base := base
  A := A.deeper (envOfC qual scope s.heap.objs.size f cd)
  N := N
  s₀ := s
  H₀ := H
  env := envOfC qual scope s.heap.objs.size f cd
  outer := outer
  stack := envOfC qual scope s.heap.objs.size f cd :: outer
  ex := []
  calm := true
  fn := fun _ => true
  pn := []
  xe := fun e s' => wpAny (model P w) (A.deeper (envOfC qual scope s.heap.objs.size f cd)) (leaving (envOfC qual scope s.heap.objs.size f cd) e) (fun _ s'' => CX outer H s E e s'') (fun e' s'' => CX outer H s E e' s'') s'

theorem cell_has {sc : Scope} {n : Nat} {x : Str} (h : sc.names.lookup x = some .cell) : ∃ c, (cellsFrom n sc.names []).lookup x = some c := by
  have q := PySem.W.cellsFrom_some sc.names n [] (.inl h)
  exact Option.isSome_iff_exists.mp q

theorem inv_start {CX : CXT} {P : Program} {w : World} {K : PySem.W.Frag} {mg : Str → Option Value} {base : Heap} {N ps : List Str} {qual : Str} {scope : Scope} {f : Addr} {cd : Value} {A : Around} {outer : List Env} {s s1 : Shared} {H : Hp} {E : XK} {us : List Value} {vs : List V}
    (S : FnScope N ps scope) (hd : A.handled = none) (e0 : Env0 P w K mg base A outer s H) (hl : vs.length = ps.length) (r : Vals vs us)
    (x : InCallC s s.heap.objs.size (bindL (envOfC qual scope s.heap.objs.size f cd).kindOf (ps.zip us) fun _ => none) (cellsFrom (s.heap.objs.size + 1) scope.names []) (bindC (envOfC qual scope s.heap.objs.size f cd).kindOf (ps.zip us) fun _ => none) s1) :
    Inv (cxOf CX P w K mg base N qual scope f cd A outer s H E) [] (start N vs) H s1 := by
  have hpl : ps.length ≤ N.length := by have := congrArg List.length S.pre; rw [List.length_take] at this; omega
  obtain ⟨h1, tk, rfl, hk⟩ := x.done
  have noA : ∀ b : Addr, b ∉ (cxOf CX P w K mg base N qual scope f cd A outer s H E).ex := fun b z => absurd (show b ∈ ([] : List Addr) from z) (by simp)
  refine ⟨⟨e0.mod, S.kind, rfl, rfl, Nat.le_refl _, fun y z c h1 h2 => ?_, fun y hy => ?_, fun y c _ h => ?_, fun _ => hd, Around.frames_deeper e0.frames, .inr ⟨rfl, rfl⟩, fun b z => absurd z (noA b), e0.bs, e0.bsz, fun b _ _ => noA b, fun b z => absurd z (noA b), e0.funs, e0.frf⟩,
    rfl, e0.bare, Un.kept hk, ⟨_, x.toInCall.ns, fun i y v h1 h2 h3 => ?_⟩, fun y c h => ⟨_, x.cell y c h⟩, e0.hok.fresh (Nat.le_refl _), fun y c h => ?_, fun p hp => absurd (show p ∈ ([] : List (Addr × Obj)) from hp) (by simp), e0.hok.kept hk, ?_⟩
  · exact name_of_addr x.apart (PySem.mem_of_lookup h1) (PySem.mem_of_lookup h2)
  · have hy : scope.names.lookup y = some .cell ∨ scope.names.lookup y = some .free := hy
    rcases hy with hy | hy
    · exact cell_has hy
    · exact absurd rfl (S.nofree _ (PySem.mem_of_lookup hy))
  · exact Nat.le_of_lt (x.above y c (PySem.mem_of_lookup h))
  · have hi : i < vs.length := by
      unfold start at h2
      by_cases hi : i < vs.length
      · exact hi
      · rw [List.getElem?_append_right (by simpa using hi)] at h2
        rw [List.getElem?_replicate] at h2
        split at h2 <;> cases h2
    have ha : vs[i]? = some v := by
      unfold start at h2
      rw [List.getElem?_append_left (by simpa using hi), List.getElem?_map] at h2
      cases e : vs[i]? with
      | none => rw [e] at h2; cases h2
      | some a => rw [e] at h2; cases h2; rfl
    obtain ⟨u, hu, rv⟩ := r.get ha
    have hp : ps[i]? = some y := by
      rw [← S.pre, List.getElem?_take_of_lt (by omega)]; exact h1
    have ndP : ps.Nodup := by rw [← S.pre]; exact S.nd.sublist (List.take_sublist _ _)
    refine ⟨u, rv, ?_⟩
    rcases S.par y (List.mem_of_getElem? hp) with k | k
    · exact .inl ⟨k, bindL_get ndP hp hu k⟩
    · obtain ⟨c, e⟩ := cell_has (n := s.heap.objs.size + 1) k
      refine .inr ⟨.inl k, c, e, ?_⟩
      have q := x.cell y c e
      rw [bindC_get ndP hp hu (by show scope.names.lookup y ≠ _; rw [k]; decide)] at q
      exact q
  · exact e0.hok.fresh (Nat.le_of_lt (x.above y c (PySem.mem_of_lookup h)))
  · unfold start
    show _ = N.length
    rw [List.length_append, List.length_map, List.length_replicate]
    omega

/-- THE RULE: a def (or a method) of the text, by its body. The body's reading t is chosen for each entry; it is run at the parameters' values -/
theorem fn_of {CX : CXT} {P : Program} {w : World} {K : PySem.W.Frag} {mg : Str → Option Value} {base : Heap} {k : Nat} {f : Addr} {name qual : Str} {params : Arguments} {body : List Stmt} {scope : Scope} {dV kV doc pm cdv ct oc : Value} {an od : Option Addr}
    {osl : Array (Option Value)} {N ps : List Str} {sp : Sp} (lk : K.lookup f = some ⟨oc, od, .func (PySem.W.fnOf name qual params body scope dV kV doc pm an cdv ct), osl⟩) (hcd : PySem.W.codeIn K cdv qual = true) (S : FnScope N ps scope)
    (len : ∀ vs H Q E, sp vs H Q E → vs.length = ps.length)
    (hbody : ∀ (A : Around) (outer : List Env) (s : Shared) (H : Hp) (vs : List V) (Q : VK) (E : XK), Room k (A.deeper (envOfC qual scope s.heap.objs.size f cdv)) → sp vs H Q E →
      ∃ t, PSs (cxOf CX P w K mg base N qual scope f cdv A outer s H E) body t ∧ t { nx := fun _ H' => Q .non H', rt := Q } (start N vs) H) :
    FnOk P w K mg base CX (k + 1) f (PySem.W.fnOf name qual params body scope dV kV doc pm an cdv ct) ps sp := by
  refine ⟨len, fun A outer s H args us vs Q E hr e0 hb r hsp => ?_⟩
  have hl := len _ _ _ _ hsp
  have KX : K.In s.heap := e0.mod.kin.keeps fun b o e => (e0.bs b o e).1
  have lim : s.heap.NoLimit := e0.mod.nolimit.keeps fun b o e => (e0.bs b o e).1
  have hkind : ∀ y ∈ ps.zip us, scope.names.lookup y.1 = some .local ∨ (scope.names.lookup y.1 = some .cell ∧ ((cellsFrom (s.heap.objs.size + 1) scope.names []).lookup y.1).isSome = true) := fun ⟨n, v⟩ hy => by
    rcases S.par n (List.of_mem_zip hy).1 with q | q
    · exact .inl q
    · exact .inr ⟨q, PySem.W.cellsFrom_some _ _ _ (.inl q)⟩
  refine codeAny_call_function hr.depth (KX _ _ lk) rfl S.co S.gen rfl (PySem.W.codeRec_of KX hcd) (hb _ _ _ _ ?_)
  refine wpAny_newFunctionEnv_cells S.kind hkind fun env he s1 x => ?_
  subst he
  refine ⟨lim.keeps x.toInCall.keep, codeAny_func ?_⟩
  obtain ⟨t, ht, hq⟩ := hbody A outer s H vs Q E (hr.deeper _) hsp
  have I : Inv (cxOf CX P w K mg base N qual scope f cdv A outer s H E) [] (start N vs) H s1 := inv_start S hr.hd e0 hl r x
  refine wpAny_mono (ht [] s1 (start N vs) H _ I hq) (fun fl s' hs => ?_) fun e s' hs => hs
  have fin : ∀ {σ' : St} {H' : Hp} {v : V} {u : Value}, Inv (cxOf CX P w K mg base N qual scope f cdv A outer s H E) [] σ' H' s' → RelV v u → Q v H' → CE outer P w H s Q u s' :=
    fun {σ' H' v u} J rv q => ⟨v, H', J.os, J.bare, J.base, J.hok, rv, q⟩
  cases fl with
  | ret u =>
    obtain ⟨v, σ', H', J, rv, q⟩ := hs
    exact fin J rv q
  | next =>
    obtain ⟨σ', H', J, q⟩ := hs
    exact fin (v := V.non) (u := Value.none) J rfl q
  | brk =>
    obtain ⟨_, _, _, q⟩ := hs
    exact False.elim q
  | cont =>
    obtain ⟨_, _, _, q⟩ := hs
    exact False.elim q
end L2

namespace L2
open PySem PySem.Spec PyProof.Rows
section
variable {X : Cx} {x : Str} {p pos : Pos} {e : Expr} {es : List Expr} {t : TA} {id T : String} {r : List V → Hp → VK → Prop}

def tCB (r : List V → Hp → VK → Prop) (t : TA) : TE := fun σ H Q => t σ H fun vs H1 => r vs H1 Q
/-- f(e, ..), f a built-in function -/
theorem pe_callB (hc : CallR X (.builtin id) r) (hg : Gl X x) (hm : X.mg x = none) (hv : bootBuiltins x = some (.builtin id)) (ha : PA X (e :: es) t) (hn : x ≠ "__name__" := by decide) (hdb : (x == ("__debug__" : Str)) = false := by decide)
    (he : starEach (e :: es) X.env = (false, eval e X.env) :: starEach es X.env := by rfl) (hpl : (backTo pos (starEach es X.env)).any (·.1) = false := by rfl) : PE X (.Call (.Name x p) (e :: es) [] pos) (tCB r t) := by
  intro pins s σ H Q I h
  refine wpAny_Call_Name_kw (ld_blt I hg hm hv ?_ hn hdb)
  exact PyProof.Rows.callWith_builtin1 (thn (ha pos pins s σ H _ I h) fun us s1 ⟨vs, H1, I1, r1, q1⟩ => hc pins s1 σ H1 vs us Q I1 r1 q1) he hpl
/-- T(e, ..), T a built-in type -/
theorem pe_callTy (hc : CallR X (.type T) r) (hg : Gl X x) (hm : X.mg x = none) (hv : bootBuiltins x = some (.type T)) (ha : PA X (e :: es) t) (hn : x ≠ "__name__" := by decide) (hdb : (x == ("__debug__" : Str)) = false := by decide)
    (he : starEach (e :: es) X.env = (false, eval e X.env) :: starEach es X.env := by rfl) (hpl : (backTo pos (starEach es X.env)).any (·.1) = false := by rfl) : PE X (.Call (.Name x p) (e :: es) [] pos) (tCB r t) := by
  intro pins s σ H Q I h
  refine wpAny_Call_Name_kw (ld_blt I hg hm hv ?_ hn hdb)
  exact PyProof.Rows.callWith_type1 (thn (ha pos pins s σ H _ I h) fun us s1 ⟨vs, H1, I1, r1, q1⟩ => hc pins s1 σ H1 vs us Q I1 r1 q1) he hpl
end
end L2

namespace HT
open PySem PyProof.Rows

/-- t < u of tuples of ints -/
def lexLt : List Int → List Int → Bool
  | [], [] => false
  | [], _ :: _ => true
  | _ :: _, [] => false
  | x :: xs, y :: ys => if x = y then lexLt xs ys else decide (x < y)
section
open PySem.SeqAt
open PySem.AutoSeq1 (wpAny_loadPart')
open PySem.MeetsSeq PySem.MeetsSeq2 PySem.MeetsSeq3

end

section
variable {prog : Program} {w : World} {A : Around} {E : Value → Shared → Prop} {s : Shared}

/-! ### t[a:b], not the whole -/
/-- a slice's bound as a place among n (d where it is left out) -/
def sIx (n d : Nat) : Option Int → Nat
  | none => d
  | some v => if v < 0 then (v + (n : Int)).toNat else min v.toNat n
theorem sIx_none (n d : Nat) : sIx n d none = d := rfl
theorem sIx_nat (n d k : Nat) : sIx n d (some (k : Int)) = min k n := by
  show (if (k : Int) < 0 then ((k : Int) + (n : Int)).toNat else min (k : Int).toNat n) = min k n
  rw [if_neg (by omega), Int.toNat_natCast]
end
end HT

namespace L2
open PySem PySem.Spec PyProof.Rows

/-! ### the parts of a slice -/
abbrev TO := St → Hp → (Option Int → Hp → Prop) → Prop
/-- a slice's part (left out, or an int) -/
def PO (X : Cx) (e : Option Expr) (t : TO) : Prop :=
  ∀ (pins : List (Addr × Obj)) (s : Shared) (σ : St) (H : Hp) (Q : Option Int → Hp → Prop), Inv X pins σ H s → t σ H Q →
    wpAny (model X.prog X.w) X.A (evalPart e X.env) (fun u s' => ∃ o H', Inv X pins σ H' s' ∧ IsPart u o ∧ Q o H') X.xe s
def tNoPart : TO := fun _ H Q => Q none H
def tPart (t : TE) : TO := fun σ H Q => t σ H fun x H1 => ∃ i, x = .int i ∧ Q (some i) H1

section
variable {X : Cx} {e : Expr} {te : TE} {lo hi : Option Expr} {tl th : TO} {pos p2 : Pos}

/-- what a slice of a value is, by values: the slice object stands at sl -/
def SlR (X : Cx) (r : V → Option Int → Option Int → Hp → VK → Prop) : Prop :=
  ∀ (pins : List (Addr × Obj)) (s : Shared) (σ : St) (H : Hp) (x : V) (v vl vu : Value) (lo hi : Option Int) (sl : Addr) (Q : VK), Inv X pins σ H s → RelV x v → s.heap.IsSliceOf sl vl vu .none → IsPart vl lo → IsPart vu hi → r x lo hi H Q →
    ∃ T id, typeLookup (.type T) "__getitem__" = pure (some (.builtin id)) ∧ s.TypeIs v T ∧ wpAny (model X.prog X.w) X.A (getItem v (.ref sl)) (EP X pins σ Q) X.xe s
def tSl (r : V → Option Int → Option Int → Hp → VK → Prop) (te : TE) (tl th : TO) : TE := fun σ H Q => te σ H fun x H1 => tl σ H1 fun l H2 => th σ H2 fun u H3 => r x l u H3 Q
/-- the items of xs[lo:hi] -/
def cutV (xs : List V) (lo hi : Option Int) : List V := (xs.drop (HT.sIx xs.length 0 lo)).take (HT.sIx xs.length xs.length hi - HT.sIx xs.length 0 lo)
/-- t[lo:hi], not the whole of it (the whole would be t itself) -/
def rSlT (K : PySem.W.Frag) : V → Option Int → Option Int → Hp → VK → Prop := fun x lo hi H Q => ∃ a xs, x = .ref a ∧ SqT K H a xs ∧
  ¬ (HT.sIx xs.length 0 lo = 0 ∧ HT.sIx xs.length xs.length hi = xs.length) ∧ ∀ p, H p = none → Q (.ref p) (upd H p (.tup (cutV xs lo hi)))
/-! ### t < u, t + u -/
def rLtT (K : PySem.W.Frag) : R2 := fun x y H Q => ∃ a b ns ms, x = .ref a ∧ y = .ref b ∧ SqT K H a (ns.map V.int) ∧ SqT K H b (ms.map V.int) ∧ Q (.bl (HT.lexLt ns ms)) H
/-- t + u, t not empty: u empty gives t itself -/
def rCatT (K : PySem.W.Frag) : R2 := fun x y H Q => ∃ a b xs ys, x = .ref a ∧ y = .ref b ∧ SqT K H a xs ∧ SqT K H b ys ∧ xs ≠ [] ∧ xs.length + ys.length ≤ sizeLine ∧
  (ys = [] → Q (.ref a) H) ∧ (ys ≠ [] → ∀ p, H p = none → Q (.ref p) (upd H p (.tup (xs ++ ys))))
end
end L2

namespace L2
open PySem PySem.Spec PyProof.Rows

/-! ### places -/
/-- the place that an index of any sign means -/
def ixN (n : Nat) (i : Int) : Option Nat := if 0 ≤ i then (if i < n then some i.toNat else none) else if -(n : Int) ≤ i then some (i + n).toNat else none
def atI {α : Type} (xs : List α) (i : Int) : Option α := (ixN xs.length i).bind fun j => xs[j]?
theorem ixN_seq {n : Nat} {i : Int} {j : Nat} (h : ixN n i = some j) : seqIndex? i n = some j ∧ j < n ∧ -(n : Int) ≤ i ∧ i < n := by
  unfold ixN at h
  by_cases h0 : 0 ≤ i
  · rw [if_pos h0] at h
    by_cases h1 : i < n
    · rw [if_pos h1] at h
      have e : i.toNat = j := Option.some.inj h
      exact ⟨by rw [seqIndex_of h0 h1, e], by omega, by omega, h1⟩
    · rw [if_neg h1] at h; cases h
  · rw [if_neg h0] at h
    by_cases h1 : -(n : Int) ≤ i
    · rw [if_pos h1] at h
      have e : (i + n).toNat = j := Option.some.inj h
      exact ⟨by rw [seqIndex_neg (by omega) h1, e], by omega, h1, by omega⟩
    · rw [if_neg h1] at h; cases h
theorem atI_get {α : Type} {xs : List α} {i : Int} {v : α} (h : atI xs i = some v) : ∃ j, seqIndex? i xs.length = some j ∧ xs[j]? = some v ∧ j < xs.length ∧ -(xs.length : Int) ≤ i ∧ i < xs.length := by
  unfold atI at h
  cases e : ixN xs.length i with
  | none => rw [e] at h; cases h
  | some j =>
    rw [e] at h
    obtain ⟨h1, h2, h3, h4⟩ := ixN_seq e
    exact ⟨j, h1, h, h2, h3, h4⟩
theorem atI_nat {α : Type} {xs : List α} {j : Nat} {v : α} (h : xs[j]? = some v) : atI xs (j : Int) = some v := by
  have hj : j < xs.length := (List.getElem?_eq_some_iff.mp h).1
  have e : ixN xs.length (j : Int) = some j := by
    unfold ixN
    rw [if_pos (by omega), if_pos (by omega)]; simp
  unfold atI; rw [e]; exact h
theorem atI_last {α : Type} (xs : List α) (v : α) : atI (xs ++ [v]) (-1) = some v := by
  have hl : (xs ++ [v]).length = xs.length + 1 := by simp
  have e : ixN (xs ++ [v]).length (-1) = some xs.length := by
    unfold ixN
    rw [hl, if_neg (by decide), if_pos (by omega)]
    congr 1
    omega
  unfold atI
  rw [e]
  show (xs ++ [v])[xs.length]? = some v
  simp

/-! ### what may be subscripted -/
/-- what stands as an index of a plain subscript -/
def PlainIx (b : Expr) : Prop := ∀ o i, subscripted b false o i = operate [o, i] (getItem o i)
/-- a subscript by values -/
def IxR (X : Cx) (r : R2) : Prop :=
  ∀ (value slice : Expr) (pins : List (Addr × Obj)) (s : Shared) (σ : St) (H : Hp) (x y : V) (v u : Value) (Q : VK), Inv X pins σ H s → RelV x v → RelV y u → r x y H Q →
    subscripted slice false v u = operate [v, u] (getItem v u) → wpAny (model X.prog X.w) X.A (subscriptTail value slice v u) (EP X pins σ Q) X.xe s
/-- a call of a builtin's method by values: the receiver, the arguments -/
def MtR (X : Cx) (id : String) (r : V → List V → Hp → VK → Prop) : Prop :=
  ∀ (pins : List (Addr × Obj)) (s : Shared) (σ : St) (H : Hp) (x : V) (xs : List V) (v : Value) (us : List Value) (Q : VK), Inv X pins σ H s → RelV x v → Vals xs us → r x xs H Q →
    wpAny (model X.prog X.w) X.A (call (.builtin id) (v :: us)) (EP X pins σ Q) X.xe s
section
variable {X : Cx} {a b : Expr} {ta tb : TE} {pos : Pos}
/-- a[b] -/
theorem pe_ix {r : R2} (hr : IxR X r) (ha : PE X a ta) (hb : PE X b tb) (hs : PlainIx b) : PE X (.Subscript a b pos) (tOp r ta tb) := by
  intro pins s σ H Q I h
  exact Subscript_ (binT ha hb I h fun v u s2 x y H2 I2 rx ry q => hr a b pins s2 σ H2 x y v u Q I2 rx ry q (hs _ _))

def rIxL (K : PySem.W.Frag) : R2 := fun x y H Q => ∃ p xs i v, x = .ref p ∧ y = .int i ∧ SqL K H p xs ∧ atI xs i = some v ∧ Q v H
def rIxT (K : PySem.W.Frag) : R2 := fun x y H Q => ∃ p xs i v, x = .ref p ∧ y = .int i ∧ SqT K H p xs ∧ atI xs i = some v ∧ Q v H
def rIxS : R2 := fun x y H Q => ∃ z i c, x = .str z ∧ y = .int i ∧ z.length ≤ sizeLine ∧ atI z.cps.toList i = some c ∧ Q (.str ⟨#[c]⟩) H
theorem ix_list : IxR X (rIxL X.K) := by
  intro value slice pins s σ H x y v u Q I rx ry h hs
  obtain ⟨p, xs, i, z, rfl, rfl, hq, he, q⟩ := h
  cases rx
  obtain ⟨t, rfl⟩ := ry
  obtain ⟨its, r, pl, hz⟩ := I.list hq
  obtain ⟨j, h1, h2, h3, h4, h5⟩ := atI_get he
  obtain ⟨w, ew, rw'⟩ := r.get h2
  have hl := r.length
  have hn := line63
  have fin : EP X pins σ Q w s := ⟨z, H, I, rw', q⟩
  by_cases h0 : 0 ≤ i
  · have hj : i.toNat = j := by
      rw [seqIndex_of h0 h5] at h1
      exact Option.some.inj h1
    exact item_listR pl.isList h0 (by omega) (by rw [hj]; simpa using ew) fin hs
  · have hj : (i + (its.toArray.size : Int)).toNat = j := by
      rw [seqIndex_neg (by omega) h4] at h1
      rw [List.size_toArray, ← hl]
      exact Option.some.inj h1
    exact subscriptTail_builtinR (x := w) pl.isList.typeIs slot_list_getitem.lookup
      (wpAny_getItem_list_neg (Q := fun r s' => r = w ∧ EP X pins σ Q r s') pl.isList (by omega) (by rw [List.size_toArray] <;> omega) (by omega) (by rw [hj]; simpa using ew) ⟨rfl, fin⟩) hs
/-- list, tuple or str -/
def rIx (K : PySem.W.Frag) : R2 := fun x y H Q => rIxL K x y H Q ∨ rIxT K x y H Q ∨ rIxS x y H Q
/-! ### xs[i] = v, any sign -/
def rSetL : V → V → V → Hp → (Hp → Prop) → Prop := fun o i v H Q => ∃ p xs k j, o = .ref p ∧ i = .int k ∧ H p = some (.lst xs) ∧ ixN xs.length k = some j ∧ Q (upd H p (.lst (xs.set j v)))
/-! ### slices -/
/-- xs[lo:hi] of a list: a new list -/
def rSlL (K : PySem.W.Frag) : V → Option Int → Option Int → Hp → VK → Prop := fun x lo hi H Q => ∃ a xs, x = .ref a ∧ SqL K H a xs ∧ ∀ p, H p = none → Q (.ref p) (upd H p (.lst (cutV xs lo hi)))
/-! ### in, not in: flat items -/
def flatV : V → Bool
  | .non => true
  | .bl _ => true
  | .int _ => true
  | .str _ => true
  | _ => false
/-- == of flat values -/
def eqV : V → V → Bool
  | .non, .non => true
  | .bl a, .bl b => a == b
  | .bl a, .int b => (if a then 1 else 0) == b
  | .int a, .bl b => a == (if b then 1 else 0)
  | .int a, .int b => a == b
  | .str a, .str b => a == b
  | _, _ => false
theorem eqAt_V {A : Around} {s : Shared} {y x : V} {u v : Value} (ry : RelV y u) (rx : RelV x v) (fy : flatV y = true) (fx : flatV x = true) : SeqAt.EqAt A s u v (eqV y x) := by
  cases y with
  | non =>
    cases ry
    cases x with
    | non => cases rx; exact SeqAt.EqAt.same _
    | bl b => cases rx; exact SeqAt.EqAt.none_bool b
    | int b => obtain ⟨t, rfl⟩ := rx; exact SeqAt.EqAt.none_int b t
    | str b => obtain ⟨t, rfl⟩ := rx; exact SeqAt.EqAt.none_str b t
    | _ => exact absurd (show false = true from fx) Bool.false_ne_true
  | bl a =>
    cases ry
    cases x with
    | non => cases rx; exact SeqAt.EqAt.bool_none a
    | bl b => cases rx; exact SeqAt.EqAt.bool_bool a b
    | int b => obtain ⟨t, rfl⟩ := rx; exact SeqAt.EqAt.bool_int a b t
    | str b => obtain ⟨t, rfl⟩ := rx; exact SeqAt.EqAt.bool_str a b t
    | _ => exact absurd (show false = true from fx) Bool.false_ne_true
  | int a =>
    obtain ⟨t', rfl⟩ := ry
    cases x with
    | non => cases rx; exact SeqAt.EqAt.int_none a t'
    | bl b => cases rx; exact SeqAt.EqAt.int_bool a t' b
    | int b => obtain ⟨t, rfl⟩ := rx; exact SeqAt.EqAt.int_int a t' b t
    | str b => obtain ⟨t, rfl⟩ := rx; exact SeqAt.EqAt.int_str a t' b t
    | _ => exact absurd (show false = true from fx) Bool.false_ne_true
  | str a =>
    obtain ⟨t', rfl⟩ := ry
    cases x with
    | non => cases rx; exact SeqAt.EqAt.str_none a t'
    | bl b => cases rx; exact SeqAt.EqAt.str_bool a t' b
    | int b => obtain ⟨t, rfl⟩ := rx; exact SeqAt.EqAt.str_int a t' b t
    | str b => obtain ⟨t, rfl⟩ := rx; exact SeqAt.EqAt.str_str a t' b t
    | _ => exact absurd (show false = true from fx) Bool.false_ne_true
  | _ => exact absurd (show false = true from fy) Bool.false_ne_true
/-- the items' answers, read off the values (a value's own answer does not lean on its token) -/
def eqU (x : V) (u : Value) : Bool := match u with
  | .none => eqV .non x
  | .bool b => eqV (.bl b) x
  | .int i _ => eqV (.int i) x
  | .str z _ => eqV (.str z) x
  | _ => false
theorem eqU_of {x y : V} {u : Value} (r : RelV y u) (f : flatV y = true) : eqU x u = eqV y x := by
  cases y with
  | non => cases r; rfl
  | bl b => cases r; rfl
  | int i => obtain ⟨t, rfl⟩ := r; rfl
  | str z => obtain ⟨t, rfl⟩ := r; rfl
  | _ => exact absurd (show false = true from f) Bool.false_ne_true
theorem any_eqU {x : V} : ∀ {xs : List V} {us : List Value}, Vals xs us → xs.all flatV = true → us.any (eqU x) = xs.any fun y => eqV y x
  | _, _, .nil, _ => rfl
  | y :: xs, u :: us, .cons r t, f => by
    rw [List.all_cons, Bool.and_eq_true] at f
    rw [List.any_cons, List.any_cons, eqU_of r f.1, any_eqU t f.2]
theorem mem_eqAt {A : Around} {s : Shared} {x : V} {v : Value} (rx : RelV x v) (fx : flatV x = true) : ∀ {xs : List V} {us : List Value}, Vals xs us → xs.all flatV = true → ∀ u ∈ us, SeqAt.EqAt A s u v (eqU x u)
  | _, _, .nil, _ => fun u hu => by cases hu
  | y :: xs, u :: us, .cons r t, f => fun u' hu => by
    rw [List.all_cons, Bool.and_eq_true] at f
    rcases List.mem_cons.mp hu with rfl | hu
    · rw [eqU_of r f.1]; exact eqAt_V r rx f.1 fx
    · exact mem_eqAt rx fx t f.2 u' hu
def inV (x : V) (xs : List V) : Bool := xs.any fun y => eqV y x
/-- x in a list or tuple of flat items -/
def rIn (K : PySem.W.Frag) (neg : Bool) : R2 := fun x y H Q => ∃ p xs, y = .ref p ∧ (SqL K H p xs ∨ SqT K H p xs) ∧ flatV x = true ∧ xs.all flatV = true ∧ Q (.bl (if neg then !inV x xs else inV x xs)) H
theorem op_in_seq : OpR X (compareOp .In) (rIn X.K false) := by
  intro pins s σ H x y v u Q I rx ry h
  obtain ⟨p, xs, rfl, hq, fx, fs, q⟩ := h
  cases ry
  rcases hq with hq | hq
  · obtain ⟨its, r, pl, hz⟩ := I.list hq
    refine SeqAt.in_listAt (eqU x) pl.isList (fun w hw => mem_eqAt rx fx r fs w (by simpa using hw)) ⟨.bl _, H, I, rfl, ?_⟩
    rw [show its.toArray.any (eqU x) = its.any (eqU x) by simp, any_eqU r fs]
    exact q
  · obtain ⟨its, r, pl, hz⟩ := I.tuple hq
    refine SeqAt.in_tupleAt (eqU x) pl (fun w hw => mem_eqAt rx fx r fs w (by simpa using hw)) ⟨.bl _, H, I, rfl, ?_⟩
    rw [show its.toArray.any (eqU x) = its.any (eqU x) by simp, any_eqU r fs]
    exact q
/-! ### len, list(x), tuple(x) of any list or tuple that is read -/
theorem call_len_seq : CallR X (.builtin "len") (fun xs H Q => ∃ p ys, xs = [.ref p] ∧ (SqL X.K H p ys ∨ SqT X.K H p ys) ∧ Q (.int ys.length) H) := by
  intro pins s σ H xs us Q I r h
  obtain ⟨p, ys, rfl, hq, q⟩ := h
  obtain ⟨u, rfl, rx⟩ := vals1 r
  cases rx
  have hn := line63
  rcases hq with hq | hq
  · obtain ⟨its, r', pl, hz⟩ := I.list hq
    have hlen := r'.length
    exact Calls.call_len_list pl.isList (by simp only [List.size_toArray] <;> omega) ⟨.int ys.length, H, I.tok _, ⟨s.toks + 1, by rw [List.size_toArray, hlen]⟩, q⟩
  · obtain ⟨its, r', pl, hz⟩ := I.tuple hq
    have hlen := r'.length
    exact len_tuple pl (by simp only [List.size_toArray] <;> omega) ⟨.int ys.length, H, I.tok _, ⟨s.toks + 1, by rw [List.size_toArray, hlen]⟩, q⟩
theorem call_tuple_of : CallR X (.type "tuple") (fun xs H Q => ∃ p ys, xs = [.ref p] ∧ ((SqL X.K H p ys ∧ ∀ l, H l = none → Q (.ref l) (upd H l (.tup ys))) ∨ (SqT X.K H p ys ∧ Q (.ref p) H))) := by
  intro pins s σ H xs us Q I r h
  obtain ⟨p, ys, rfl, h⟩ := h
  obtain ⟨u, rfl, rx⟩ := vals1 r
  cases rx
  rcases h with ⟨hq, q⟩ | ⟨hq, q⟩
  · obtain ⟨its, r', pl, hz⟩ := I.list hq
    have hlen := r'.length
    refine call_tuple_list pl.isList (fun h' kp => ?_) (by simp only [List.size_toArray] <;> omega)
    have I1 : Inv X pins σ H { s with heap := h' } := I.kept (t' := s.toks) kp
    have I2 : Inv X pins σ (upd H h'.objs.size (.tup ys)) { s with heap := h'.push { cls := .type "tuple", data := .seq its.toArray } } :=
      I1.laid (t' := s.toks) (fun b o e => Heap.get?_push_of_some _ e) (Nat.le_refl _) (show ObjOk X.prog X.w _ _ _ (.tup ys) from ⟨hz, its, r', IsTup.new _ _⟩)
    exact ⟨.ref h'.objs.size, _, I2, rfl, q _ (I1.hok.fresh (Nat.le_refl _))⟩
  · obtain ⟨its, r', pl, hz⟩ := I.tuple hq
    exact call_tuple_same pl ⟨.ref p, H, I, rfl, q⟩

/-! ### the call of a builtin's method: o.m(..) -/
/-- the value is of that builtin type -/
def tyV (K : PySem.W.Frag) (T : String) (x : V) (H : Hp) : Prop := match x with
  | .str _ => T = "str"
  | .int _ => T = "int"
  | .ref p => (T = "list" ∧ ∃ xs, SqL K H p xs) ∨ (T = "tuple" ∧ ∃ o, K.lookup p = some o ∧ o.cls = .type "tuple" ∧ o.dict = none) ∨
      (T = "dict" ∧ ((∃ kvs, H p = some (.dK kvs)) ∨ ∃ kvs, H p = some (.dT kvs))) ∨ (T = "set" ∧ ∃ S n, H p = some (.set S n))
  | _ => False
theorem tyV_is {pins : List (Addr × Obj)} {σ : St} {H : Hp} {s : Shared} {T : String} {x : V} {v : Value} (I : Inv X pins σ H s) (r : RelV x v) (ty : tyV X.K T x H) :
    s.TypeIs v T ∧ ∀ a, v = .ref a → ∃ ob, s.heap.get? a = some ob ∧ ob.dict = none := by
  cases x with
  | str z =>
    obtain ⟨t, rfl⟩ := r
    cases (show T = "str" from ty)
    exact ⟨typeIs_str s z t, fun _ e => nomatch e⟩
  | int i =>
    obtain ⟨t, rfl⟩ := r
    cases (show T = "int" from ty)
    exact ⟨typeIs_int s i t, fun _ e => nomatch e⟩
  | ref p =>
    cases r
    rcases ty with ⟨rfl, xs, hq⟩ | ⟨rfl, o, hk, hc, hd⟩ | ⟨rfl, hk⟩ | ⟨rfl, S, n, hk⟩
    · obtain ⟨its, _, pl, _⟩ := I.list hq
      refine ⟨pl.isList.typeIs, fun a e => ?_⟩
      cases e
      obtain ⟨o, n, e, c, hd, _⟩ := pl
      exact ⟨o, e, hd⟩
    · refine ⟨⟨o, I.kIn p o hk, hc⟩, fun a e => ?_⟩
      cases e
      exact ⟨o, I.kIn _ o hk, hd⟩
    · have z : ∃ o, s.heap.get? p = some o ∧ o.ExactDict := by
        rcases hk with ⟨kvs, hk⟩ | ⟨kvs, hk⟩
        · obtain ⟨_, _, _, _, o, _, _, e, ex, _⟩ := I.hok p _ hk
          exact ⟨o, e, ex⟩
        · obtain ⟨_, _, _, _, o, _, _, e, ex, _⟩ := I.hok p _ hk
          exact ⟨o, e, ex⟩
      obtain ⟨o, e, ex⟩ := z
      refine ⟨⟨o, e, ex.1⟩, fun a e2 => ?_⟩
      cases e2
      exact ⟨o, e, ex.2.1⟩
    · obtain ⟨o, _, _, _, e, ex, _⟩ := I.hok p _ hk
      refine ⟨⟨o, e, ex.1⟩, fun a e2 => ?_⟩
      cases e2
      exact ⟨o, e, ex.2.1⟩
  | _ => exact False.elim ty
def tBM0 (K : PySem.W.Frag) (T : String) (r : V → List V → Hp → VK → Prop) (to : TE) : TE := fun σ H Q => to σ H fun x H1 => tyV K T x H1 ∧ r x [] H1 Q
def tBM (K : PySem.W.Frag) (T : String) (r : V → List V → Hp → VK → Prop) (to : TE) (t : TA) : TE := fun σ H Q => to σ H fun x H1 => tyV K T x H1 ∧ t σ H1 fun xs H2 => r x xs H2 Q
variable {o e : Expr} {es : List Expr} {to : TE} {t : TA} {name : Str} {apos cpos : Pos} {T id : String} {r : V → List V → Hp → VK → Prop}
theorem pe_bm0 (pa : PlainAttrs T) (slot : Slot T name id) (hty : typeOf (.builtin id) = pure (.type "method_descriptor")) (hm : MtR X id r) (ho : PE X o to)
    (hbase : attributeBase o name X.env (eval o X.env) = eval o X.env := by rfl) (hline : (apos.endLine == cpos.line) = true := by rfl) : PE X (.Call (.Attribute o name apos) [] [] cpos) (tBM0 X.K T r to) := by
  intro pins s σ H Q I h
  refine wpAny_Call_method0_late hbase hline (thn (ho pins s σ H _ I h) fun v s1 ⟨x, H1, I1, r1, ty, q1⟩ => ?_)
  obtain ⟨h1, h2⟩ := tyV_is I1 r1 ty
  exact ⟨T, id, pa, slot, hty, h1, h2, Calls.callWith_builtin rfl (PySem.evalArgs_none (hm pins s1 σ H1 x [] v [] Q I1 r1 .nil q1))⟩
theorem pe_bm (pa : PlainAttrs T) (slot : Slot T name id) (hty : typeOf (.builtin id) = pure (.type "method_descriptor")) (hm : MtR X id r) (ho : PE X o to) (ha : PA X (e :: es) t)
    (hbase : attributeBase o name X.env (eval o X.env) = eval o X.env := by rfl)
    (hfew : ((backTo cpos (starEach (e :: es) X.env)).all (fun x => !x.1) && (backToKw cpos (keywordEach [] X.env)).all (fun x => x.1.isSome)
      && decide ((e :: es).length + ([] : List Keyword).length + (if ([] : List Keyword).isEmpty then 0 else 1) < 30)) = true := by rfl)
    (hline : (apos.endLine == cpos.line) = true := by rfl) (hs : starEach (e :: es) X.env = (false, eval e X.env) :: starEach es X.env := by rfl) (hplain : (backTo cpos (starEach es X.env)).any (·.1) = false := by rfl) :
    PE X (.Call (.Attribute o name apos) (e :: es) [] cpos) (tBM X.K T r to t) := by
  intro pins s σ H Q I h
  refine wpAny_Call_method_late hbase hfew hline rfl (thn (ho pins s σ H _ I h) fun v s1 ⟨x, H1, I1, r1, ty, q1⟩ => ?_)
  obtain ⟨h1, h2⟩ := tyV_is I1 r1 ty
  refine ⟨T, id, pa, slot, hty, h1, h2, ?_⟩
  have hA := ha cpos pins s1 σ H1 _ I1 q1
  rw [hs] at hA ⊢
  refine Calls.callWith_builtin (by show (false || (backTo cpos (starEach es X.env)).any (·.1)) = false; rw [hplain] <;> rfl) (Calls.evalArgs_plain ?_)
  exact thn hA fun us s2 ⟨vs, H2, I2, r2, q2⟩ => hm pins s2 σ H2 x vs v us Q I2 r1 r2 q2
end
end L2

namespace L2
open PySem PySem.Spec PyProof.Rows

def MtM (X : Cx) (id : String) (r : V → List V → Hp → VK → Prop) : Prop :=
  ∀ (pins : List (Addr × Obj)) (s : Shared) (σ : St) (H : Hp) (x : V) (xs : List V) (v : Value) (us : List Value) (Q : VK), Inv X pins σ H s → RelV x v → Vals xs us → r x xs H Q →
    wpAny (model X.prog X.w) X.A (call (.builtin id) (v :: us)) (EP X pins σ Q) X.xe s

/-! ### lists of values -/
theorem Vals.one : ∀ {x : V} {us : List Value}, Vals [x] us → ∃ u, us = [u] ∧ RelV x u
  | _, _, .cons r .nil => ⟨_, rfl, r⟩
section
variable {X : Cx} {pins : List (Addr × Obj)} {σ : St} {H : Hp} {s : Shared} {l b : Addr} {xs ys zs : List V}

/-! ### the two steps: a tracked list is rewritten, a new list is laid -/
theorem Inv.lset {its its' : List Value} {n : Nat} {f : Array Value → Array Value} {t' : Nat} (I : Inv X pins σ H s) (hH : H l = some (.lst xs))
    (e : s.heap.get? l = some { cls := .type "list", data := .seq its.toArray n }) (hf : f its.toArray = its'.toArray) (hv : Vals ys its') (hz : ys.length ≤ sizeLine) :
    Inv X pins σ (upd H l (.lst ys)) { s with heap := s.heap.update l (Obj.mapSeq f), toks := t' } := by
  have q := PySem.IsL.update e f
  rw [hf] at q
  refine I.write (x := l) (e := l) (by rw [hH]; exact trivial) (.inl rfl) (fun b' u hb hu => (Heap.get?_update_other s.heap (Obj.mapSeq f) (Ne.symm hb)).trans hu) ⟨_, q⟩ ?_
  exact ⟨hz, its', _, hv, q⟩
theorem Inv.lnew {its : List Value} {t' : Nat} (I : Inv X pins σ H s) (hv : Vals ys its) (hz : ys.length ≤ sizeLine) :
    Inv X pins σ (upd H s.heap.objs.size (.lst ys)) { s with heap := s.heap.push { cls := .type "list", data := .seq its.toArray }, toks := t' } :=
  I.laid (fun _ _ q => Heap.get?_push_of_some _ q) (Nat.le_refl _) ⟨hz, its, 0, hv, Heap.get?_push_size _ rfl⟩
theorem Inv.fresh (I : Inv X pins σ H s) : H s.heap.objs.size = none := I.hok.fresh (Nat.le_refl _)
theorem Inv.lstM (I : Inv X pins σ H s) (hH : H l = some (.lst xs)) : xs.length ≤ sizeLine ∧ ∃ (its : List Value) (n : Nat), Vals xs its ∧ xs.length = its.length ∧ s.heap.get? l = some { cls := .type "list", data := .seq its.toArray n } := by
  obtain ⟨z, its, n, r, e⟩ := I.hok l _ hH
  exact ⟨z, its, n, r, r.length, e⟩

theorem notLongL {n : Nat} (h : n ≤ sizeLine) : Builtin.List.listTooLong n = false := by
  unfold Builtin.List.listTooLong
  exact decide_eq_false (by omega)
end

section
variable {X : Cx}

/-! ### methods -/
def rAppend : V → List V → Hp → VK → Prop := fun x vs H Q => ∃ l xs y, x = .ref l ∧ vs = [y] ∧ H l = some (.lst xs) ∧ xs.length < sizeLine ∧ Q .non (upd H l (.lst (xs ++ [y])))
theorem mt_append : MtM X "list.append" rAppend := by
  intro pins s σ H x vs v us Q I rx rv h
  obtain ⟨l, xs, y, rfl, rfl, hH, hz, q⟩ := h
  cases rx
  obtain ⟨u, rfl, ru⟩ := rv.one
  obtain ⟨z, its, n, r, hl, e⟩ := I.lstM hH
  refine call_meets F.slot_list_append ⟨_, e, rfl⟩ F.entry_list_append (F.args_list_append_2 _ _) (PySem.list_append l its.toArray n u (by rw [List.size_toArray]; omega)) ⟨e, ?_⟩
  refine ⟨.non, _, I.lset (its' := its ++ [u]) hH e (by simp) (r.append (.cons ru .nil)) ?_, rfl, q⟩
  rw [List.length_append, List.length_singleton]
  omega

def rExtend : V → List V → Hp → VK → Prop := fun x vs H Q => ∃ l b xs zs, x = .ref l ∧ vs = [.ref b] ∧ H l = some (.lst xs) ∧ H b = some (.lst zs) ∧ xs.length + zs.length ≤ sizeLine ∧ Q .non (upd H l (.lst (xs ++ zs)))
def rPop : V → List V → Hp → VK → Prop := fun x vs H Q => ∃ l xs y, x = .ref l ∧ vs = [] ∧ H l = some (.lst xs) ∧ xs[xs.length - 1]? = some y ∧ Q y (upd H l (.lst xs.dropLast))
def rPopAt : V → List V → Hp → VK → Prop := fun x vs H Q => ∃ l xs i k y, x = .ref l ∧ vs = [.int i] ∧ H l = some (.lst xs) ∧ -(2 ^ 63) ≤ i ∧ i < 2 ^ 63 ∧ seqIndex? i xs.length = some k ∧ xs[k]? = some y ∧ Q y (upd H l (.lst (xs.eraseIdx k)))
def rReverse : V → List V → Hp → VK → Prop := fun x vs H Q => ∃ l xs, x = .ref l ∧ vs = [] ∧ H l = some (.lst xs) ∧ Q .non (upd H l (.lst xs.reverse))
def rClear : V → List V → Hp → VK → Prop := fun x vs H Q => ∃ l xs, x = .ref l ∧ vs = [] ∧ H l = some (.lst xs) ∧ Q .non (upd H l (.lst []))
/-! ### list + list, list += list, list * int -/
def rCat : R2 := fun x y H Q => ∃ l b xs zs, x = .ref l ∧ y = .ref b ∧ H l = some (.lst xs) ∧ H b = some (.lst zs) ∧ xs.length + zs.length ≤ sizeLine ∧ ∀ p, H p = none → Q (.ref p) (upd H p (.lst (xs ++ zs)))
theorem op_cat : OpR X (binaryOp .Add) rCat := by
  intro pins s σ H x y v u Q I rx ry h
  obtain ⟨l, b, xs, zs, rfl, rfl, hH, hB, hz, q⟩ := h
  cases rx
  cases ry
  obtain ⟨z, its, n, r, hl, e⟩ := I.lstM hH
  obtain ⟨z2, its2, n2, r2, hl2, e2⟩ := I.lstM hB
  refine PySem.P.add_list e e2 ?_ (by rw [List.size_toArray, List.size_toArray]; omega)
  have ea : its.toArray ++ its2.toArray = (its ++ its2).toArray := by simp
  rw [ea]
  exact ⟨.ref _, _, I.lnew (t' := s.toks) (r.append r2) (by rw [List.length_append]; omega), rfl, q _ I.fresh⟩
/-- a list times an int (a negative one is nothing) -/
def rRep : R2 := fun x y H Q => ∃ l k xs, x = .ref l ∧ y = .int k ∧ H l = some (.lst xs) ∧ -(2 ^ 63) ≤ k ∧ k < 2 ^ 63 ∧ xs.length * k.toNat ≤ sizeLine ∧
  ∀ p, H p = none → Q (.ref p) (upd H p (.lst (List.replicate k.toNat xs).flatten))
/-! ### del xs[i] -/
end

/-! ### xs[a:b] = ys -/
section
variable {prog : Program} {w : World} {A : Around} {E : Value → Shared → Prop} {s : Shared}
set_option maxRecDepth 100000 in
end

section
variable {X : Cx}
end
end L2

namespace L2
open PySem PySem.Spec PyProof.Rows

theorem Vals.ints : ∀ {ns : List Int} {us : List Value}, Vals (ns.map V.int) us → IntsAre us ns
  | [], us, h => by
    rw [List.map_nil] at h
    cases h
    exact IntsAre.nil
  | n :: ns, us, h => by
    rw [List.map_cons] at h
    cases h with
    | cons r t =>
      obtain ⟨k, rfl⟩ := r
      exact IntsAre.cons n k (Vals.ints t)
theorem vals_of_ints : ∀ {us : List Value} {ns : List Int}, IntsAre us ns → Vals (ns.map V.int) us
  | _, _, .nil => by rw [List.map_nil]; exact Paired.nil
  | _, _, .cons n t h => by rw [List.map_cons]; exact Paired.cons (show RelV (V.int n) (Value.int n t) from ⟨t, rfl⟩) (vals_of_ints h)
theorem Vals.ref1 {a : Addr} {us : List Value} (r : Vals [V.ref a] us) : us = [Value.ref a] := by
  cases r with
  | cons r t =>
    cases t
    cases r
    rfl
/-! ### the library's walks over a list of ints, kept objects alone -/
section
variable {prog : Program} {w : World} {A : Around} {E : Value → Shared → Prop} {s : Shared} {l : Addr} {its : List Value} {ns : List Int} {Q : Value → Shared → Prop}
end

/-! ### the calls, by values (CallR of 03t; MtR of 06l) -/
section
variable {X : Cx}
/-- sum(xs) of a list of ints -/
def rSum (K : PySem.W.Frag) : List V → Hp → VK → Prop := fun vs H Q => ∃ (a : Addr) (ns : List Int), vs = [V.ref a] ∧ SqL K H a (ns.map V.int) ∧ Q (.int ns.sum) H
/-- max(xs), min(xs) of a list of ints -/
def rMax (K : PySem.W.Frag) : List V → Hp → VK → Prop := fun vs H Q => ∃ (a : Addr) (ns : List Int), vs = [V.ref a] ∧ SqL K H a (ns.map V.int) ∧ 0 < ns.length ∧ ∀ m, m ∈ ns → (∀ y, y ∈ ns → y ≤ m) → Q (.int m) H
def rMin (K : PySem.W.Frag) : List V → Hp → VK → Prop := fun vs H Q => ∃ (a : Addr) (ns : List Int), vs = [V.ref a] ∧ SqL K H a (ns.map V.int) ∧ 0 < ns.length ∧ ∀ m, m ∈ ns → (∀ y, y ∈ ns → m ≤ y) → Q (.int m) H
/-! sorted, sort (fewer than 64 items: the library's own bound) -/
def rSorted (K : PySem.W.Frag) : List V → Hp → VK → Prop := fun vs H Q => ∃ (a : Addr) (ns : List Int), vs = [V.ref a] ∧ SqL K H a (ns.map V.int) ∧ ns.length < 64 ∧
  ∀ (ns' : List Int) (p : Addr), ns'.Perm ns → ns'.Pairwise (· ≤ ·) → H p = none → Q (.ref p) (upd H p (.lst (ns'.map V.int)))
def rSortedS (K : PySem.W.Frag) : List V → Hp → VK → Prop := fun vs H Q => ∃ (a : Addr) (xs : List Str), vs = [V.ref a] ∧ SqL K H a (xs.map V.str) ∧ xs.length < 64 ∧
  ∀ (ys : List Str) (p : Addr), ys.Perm xs → sortedS ys = true → H p = none → Q (.ref p) (upd H p (.lst (ys.map V.str)))
theorem small64 {n : Nat} (h : n < 64) : n ≤ sizeLine := by rw [sizeLine_eq]; omega
theorem cr_sorted : CallR X (.builtin "sorted") (rSorted X.K) := by
  intro pins s σ H vs us Q I r h
  obtain ⟨a, ns, rfl, hs, h64, q⟩ := h
  obtain ⟨its, rv, hl, _⟩ := I.list hs
  rw [Vals.ref1 r]
  have hi := rv.ints
  refine PyProof.Rows.sorted_ints hl.isList hi (by rw [hi.length]; exact h64) fun out ns' h1 h2 h3 => ?_
  obtain ⟨ep, he'⟩ := PyProof.Rows.sortedAll_at s.heap its out
  have hlen : (ns'.map V.int).length ≤ sizeLine := by rw [List.length_map, h2.length_eq]; exact small64 h64
  exact ⟨.ref _, upd H (s.heap.objs.size + 1) (.lst (ns'.map V.int)), I.laid (t' := s.toks) (fun _ _ => PyProof.Rows.sortedAll_old) (Nat.le_succ _) ⟨hlen, out.toList, ep, vals_of_ints h1, he'⟩, rfl, q ns' _ h2 h3 (I.hok.fresh (Nat.le_succ _))⟩
/-- xs.sort(), ints -/
def rSort : V → List V → Hp → VK → Prop := fun x xs H Q => ∃ (a : Addr) (ns : List Int), x = V.ref a ∧ xs = [] ∧ H a = some (.lst (ns.map V.int)) ∧ ns.length < 64 ∧
  ∀ ns' : List Int, ns'.Perm ns → ns'.Pairwise (· ≤ ·) → Q .non (upd H a (.lst (ns'.map V.int)))
end

/-! ### list.index, flat items -/
section
variable {X : Cx}
def rIndex (K : PySem.W.Frag) : V → List V → Hp → VK → Prop := fun x xs H Q => ∃ (a : Addr) (ys : List V) (y : V) (j : Nat) (z : V), x = V.ref a ∧ xs = [y] ∧ SqL K H a ys ∧ flatV y = true ∧ ys.all flatV = true ∧ ys[j]? = some z ∧ eqV z y = true ∧
  (∀ (m : Nat) (z' : V), m < j → ys[m]? = some z' → eqV z' y = false) ∧ Q (.int (j : Nat)) H
end

/-! ### type(x) of an own instance; is, is not of a module's class -/
section
variable {X : Cx}
end

/-! ### any(xs), all(xs) of a list of bools -/
section
variable {X : Cx}
def rAny (K : PySem.W.Frag) : List V → Hp → VK → Prop := fun vs H Q => ∃ (a : Addr) (bs : List Bool), vs = [V.ref a] ∧ SqL K H a (bs.map V.bl) ∧ Q (.bl (bs.any id)) H
def rAll (K : PySem.W.Frag) : List V → Hp → VK → Prop := fun vs H Q => ∃ (a : Addr) (bs : List Bool), vs = [V.ref a] ∧ SqL K H a (bs.map V.bl) ∧ Q (.bl (bs.all id)) H
end

/-! ### == and != of data at any depth: none, bools, ints, texts, lists, tuples -/
mutual
inductive Dp (K : PySem.W.Frag) (H : Hp) : V → PyData → Prop
  | non : Dp K H .non .none
  | bl (b : Bool) : Dp K H (.bl b) (.bool b)
  | int (i : Int) : Dp K H (.int i) (.int i)
  | str (x : Str) : Dp K H (.str x) (.str x)
  | lst {a : Addr} {xs : List V} {ds : List PyData} : SqL K H a xs → DpAll K H xs ds → Dp K H (.ref a) (.list ds)
  | tup {a : Addr} {xs : List V} {ds : List PyData} : SqT K H a xs → DpAll K H xs ds → Dp K H (.ref a) (.tuple ds)
inductive DpAll (K : PySem.W.Frag) (H : Hp) : List V → List PyData → Prop
  | nil : DpAll K H [] []
  | cons {v : V} {vs : List V} {d : PyData} {ds : List PyData} : Dp K H v d → DpAll K H vs ds → DpAll K H (v :: vs) (d :: ds)
end
section
variable {X : Cx} {pins : List (Addr × Obj)} {σ : St} {H : Hp} {s : Shared}
mutual
theorem Dp.reads (I : Inv X pins σ H s) : ∀ (d : PyData) (v : V) (u : Value), Dp X.K H v d → RelV v u → ∃ as, Reads s.heap u d as
  | .none, _, _, h, r => by
    cases h
    cases r
    exact ⟨_, Reads.none⟩
  | .bool b, _, _, h, r => by
    cases h
    cases r
    exact ⟨_, Reads.bool b⟩
  | .int i, _, _, h, r => by
    cases h
    obtain ⟨t, rfl⟩ := r
    exact ⟨_, Reads.int i t⟩
  | .str x, _, _, h, r => by
    cases h
    obtain ⟨t, rfl⟩ := r
    exact ⟨_, Reads.str x t⟩
  | .list ds, _, _, h, r => by
    cases h with
    | lst hs ha =>
      cases r
      obtain ⟨its, rv, ⟨o, n, ho, hc, _, hd⟩, _⟩ := I.list hs
      obtain ⟨as, hr⟩ := Dp.readsAll I ds _ its ha rv
      exact ⟨_, Reads.list ho hc hd hr⟩
  | .tuple ds, _, _, h, r => by
    cases h with
    | tup hs ha =>
      cases r
      obtain ⟨its, rv, ⟨o, ho, hc, n, hd⟩, _⟩ := I.tuple hs
      obtain ⟨as, hr⟩ := Dp.readsAll I ds _ its ha rv
      exact ⟨_, Reads.tuple ho hc hd hr⟩
  | .dict _, _, _, h, _ => by cases h
theorem Dp.readsAll (I : Inv X pins σ H s) : ∀ (ds : List PyData) (vs : List V) (us : List Value), DpAll X.K H vs ds → Vals vs us → ∃ as, ReadsAll s.heap us ds as
  | [], _, _, h, r => by
    cases h
    cases r
    exact ⟨_, ReadsAll.nil⟩
  | d :: ds, _, _, h, r => by
    cases h with
    | cons h1 h2 =>
      cases r with
      | cons r1 r2 =>
        obtain ⟨as, q1⟩ := Dp.reads I d _ _ h1 r1
        obtain ⟨bs, q2⟩ := Dp.readsAll I ds _ _ h2 r2
        exact ⟨_, ReadsAll.cons q1 q2⟩
end
end
section
variable {X : Cx}
def rEqD (K : PySem.W.Frag) : R2 := fun x y H Q => ∃ d e, Dp K H x d ∧ Dp K H y e ∧ SeqAt.shaped d = true ∧ SeqAt.shaped e = true ∧ Q (.bl (PyData.eqv d e)) H
def rNeD (K : PySem.W.Frag) : R2 := fun x y H Q => ∃ d e, Dp K H x d ∧ Dp K H y e ∧ SeqAt.shaped d = true ∧ SeqAt.shaped e = true ∧ Q (.bl (!PyData.eqv d e)) H
theorem op_neD (hu : X.A.units + 64 < cLine) : OpR X (compareOp .NotEq) (rNeD X.K) := by
  intro pins s σ H x y v u Q I rx ry h
  obtain ⟨d, e, hd, he, sd, se, q⟩ := h
  obtain ⟨as, r1⟩ := Dp.reads I d x v hd rx
  obtain ⟨bs, r2⟩ := Dp.reads I e y u he ry
  exact SeqAt.compareNe_shaped r1 r2 sd se hu ⟨.bl _, H, I, rfl, q⟩
end
end L2

namespace L2
open PySem PySem.Spec PyProof.Rows
abbrev CellAt (h : Heap) (c : Addr) (v : Option Value) : Prop := h.IsCell c v
def relS (scope sc : Scope) : Scope :=
  { scope with names := scope.names.map fun (n, k) => if (k == .free && sc.kind == .function && sc.names.lookup n == some .cell) then (n, .cell) else (n, k) }

def cloFrom (cells : List (Str × Addr)) : List (Str × NameKind) → List (Str × Addr) → List (Str × Addr)
  | [], acc => acc
  | (n, k) :: r, acc => if k == .free then cloFrom cells r ((n, (cells.lookup n).getD 0) :: acc) else cloFrom cells r acc

theorem closure_loop (env : Env) (f : Str × NameKind → List (Str × Addr) → Sem (ForInStep (List (Str × Addr))))
    (hf : ∀ n k c, f (n, k) c = if k == .free then (do let a ← cellOf env n; pure (.yield ((n, a) :: c))) else pure (.yield c)) :
    ∀ (names : List (Str × NameKind)) (acc : List (Str × Addr)), (∀ y ∈ names, y.2 = .free → ∃ c, env.cells.lookup y.1 = some c) → forIn names acc f = pure (cloFrom env.cells names acc)
  | [], acc, _ => by rw [List.forIn_nil]; rfl
  | (n, k) :: r, acc, h => by
    rw [List.forIn_cons, hf]
    have ih := fun acc => closure_loop env f hf r acc fun y hy => h y (List.mem_cons_of_mem _ hy)
    unfold cloFrom
    by_cases hk : (k == NameKind.free) = true
    · rw [if_pos hk, if_pos hk]
      obtain ⟨c, hc⟩ := h (n, k) List.mem_cons_self (by simpa using hk)
      have e : cellOf env n = pure c := by unfold cellOf; rw [hc]
      rw [e]
      have e2 : (env.cells.lookup n).getD 0 = c := by rw [hc]; rfl
      rw [e2]
      exact ih _
    · rw [if_neg hk, if_neg hk]
      exact ih _
theorem closure_ok {scope : Scope} {env : Env} (h : ∀ y ∈ scope.names, y.2 = .free → ∃ c, env.cells.lookup y.1 = some c) : closureFor scope env = pure (cloFrom env.cells scope.names []) := by
  simp only [closureFor]
  rw [closure_loop env _ (fun n k c => rfl) scope.names [] h]
  rfl

theorem mem_lookup {α : Type} : ∀ {l : List (Str × α)} {n : Str} {c : α}, (n, c) ∈ l → ∃ c', l.lookup n = some c'
  | (k, v) :: r, n, c, h => by
    rw [List.lookup_cons]
    cases hb : n == k with
    | true => exact ⟨_, rfl⟩
    | false =>
      rcases List.mem_cons.mp h with e | h
      · cases e; simp at hb
      · exact mem_lookup h

theorem cloFrom_mem {cells : List (Str × Addr)} : ∀ {names : List (Str × NameKind)} {acc : List (Str × Addr)} {n : Str} {c : Addr}, (n, c) ∈ cloFrom cells names acc → (n, c) ∈ acc ∨ ((n, .free) ∈ names ∧ c = (cells.lookup n).getD 0)
  | [], _, _, _, h => .inl h
  | (m, k) :: r, acc, n, c, h => by
    unfold cloFrom at h
    split at h
    · rename_i hk
      have hk : k = .free := by simpa using hk
      rcases cloFrom_mem h with h | ⟨h1, h2⟩
      · rcases List.mem_cons.mp h with e | h
        · cases e; exact .inr ⟨hk ▸ List.mem_cons_self, rfl⟩
        · exact .inl h
      · exact .inr ⟨List.mem_cons_of_mem _ h1, h2⟩
    · rcases cloFrom_mem h with h | ⟨h1, h2⟩
      · exact .inl h
      · exact .inr ⟨List.mem_cons_of_mem _ h1, h2⟩
theorem cloFrom_acc {cells : List (Str × Addr)} : ∀ {names : List (Str × NameKind)} {acc : List (Str × Addr)} {p : Str × Addr}, p ∈ acc → p ∈ cloFrom cells names acc
  | [], _, _, h => h
  | (m, k) :: r, acc, p, h => by
    unfold cloFrom
    split
    · exact cloFrom_acc (List.mem_cons_of_mem _ h)
    · exact cloFrom_acc h
theorem cloFrom_has {cells : List (Str × Addr)} : ∀ {names : List (Str × NameKind)} {acc : List (Str × Addr)} {n : Str}, (n, .free) ∈ names → (n, (cells.lookup n).getD 0) ∈ cloFrom cells names acc
  | (m, k) :: r, acc, n, h => by
    unfold cloFrom
    rcases List.mem_cons.mp h with e | h
    · cases e
      exact cloFrom_acc List.mem_cons_self
    · split
      · exact cloFrom_has h
      · exact cloFrom_has h

theorem cells_mem : ∀ {names : List (Str × NameKind)} {h : Heap} {acc : List (Str × Addr)} {x : Str} {c : Addr}, (x, c) ∈ cellsFrom h.objs.size names acc →
    (x, c) ∈ acc ∨ ((x, .cell) ∈ names ∧ h.objs.size ≤ c ∧ CellAt (pushCells h names) c none)
  | [], _, _, _, _, h => .inl h
  | (n, k) :: r, h, acc, x, c, hm => by
    unfold cellsFrom at hm
    unfold pushCells
    split at hm
    · rename_i hk
      rw [if_pos hk]
      have hk : k = .cell := by simpa using hk
      rw [← Heap.size_push h { cls := .type "cell", data := .cell none }] at hm
      rcases cells_mem hm with hm | ⟨h1, h2, h3⟩
      · rcases List.mem_cons.mp hm with e | hm
        · cases e
          exact .inr ⟨hk ▸ List.mem_cons_self, Nat.le_refl _, _, pushCells_keeps r _ _ _ (Heap.get?_push_size _ rfl), rfl⟩
        · exact .inl hm
      · rw [Heap.size_push] at h2
        exact .inr ⟨List.mem_cons_of_mem _ h1, Nat.le_of_succ_le h2, h3⟩
    · rename_i hk
      rw [if_neg hk]
      rcases cells_mem hm with hm | ⟨h1, h2, h3⟩
      · exact .inl hm
      · exact .inr ⟨List.mem_cons_of_mem _ h1, h2, h3⟩
theorem cells_acc : ∀ {names : List (Str × NameKind)} {n : Nat} {acc : List (Str × Addr)} {p : Str × Addr}, p ∈ acc → p ∈ cellsFrom n names acc
  | [], _, _, _, h => h
  | (m, k) :: r, n, acc, p, h => by
    unfold cellsFrom
    split
    · exact cells_acc (List.mem_cons_of_mem _ h)
    · exact cells_acc h
theorem cells_has : ∀ {names : List (Str × NameKind)} {n : Nat} {acc : List (Str × Addr)} {x : Str}, (x, .cell) ∈ names → ∃ c, (x, c) ∈ cellsFrom n names acc
  | (m, k) :: r, n, acc, x, h => by
    unfold cellsFrom
    rcases List.mem_cons.mp h with e | h
    · cases e
      exact ⟨n, cells_acc List.mem_cons_self⟩
    · split
      · exact cells_has h
      · exact cells_has h
theorem cells_inj : ∀ {names : List (Str × NameKind)} {h : Heap} {acc : List (Str × Addr)} {x y : Str} {c : Addr}, (∀ p ∈ acc, p.2 < h.objs.size) → (∀ x y c, (x, c) ∈ acc → (y, c) ∈ acc → x = y) →
    (x, c) ∈ cellsFrom h.objs.size names acc → (y, c) ∈ cellsFrom h.objs.size names acc → x = y
  | [], _, _, _, _, _, _, hi, h1, h2 => hi _ _ _ h1 h2
  | (n, k) :: r, h, acc, x, y, c, hl, hi, h1, h2 => by
    unfold cellsFrom at h1 h2
    split at h1
    · rename_i hk
      rw [if_pos hk] at h2
      rw [← Heap.size_push h { cls := .type "cell", data := .cell none }] at h1 h2
      refine cells_inj (h := h.push _) (fun p hp => ?_) (fun x y c a b => ?_) h1 h2
      · rw [Heap.size_push]
        rcases List.mem_cons.mp hp with rfl | hp
        · exact Nat.lt_succ_self _
        · exact Nat.lt_succ_of_lt (hl p hp)
      · rcases List.mem_cons.mp a with e | a <;> rcases List.mem_cons.mp b with e' | b
        · cases e; cases e'; rfl
        · cases e; exact absurd (hl _ b) (Nat.lt_irrefl _)
        · cases e'; exact absurd (hl _ a) (Nat.lt_irrefl _)
        · exact hi _ _ _ a b
    · rename_i hk
      rw [if_neg hk] at h2
      exact cells_inj hl hi h1 h2

theorem newEnv_comp {M : Model} {A : Around} {E : Value → Shared → Prop} {s : Shared} {scope : Scope} {globals : Addr} {closure : List (Str × Addr)} {qual : Str} {func : Option Addr} {code : Value} {around : Env} {builtins : Addr} {Q : Env → Shared → Prop}
    (h : Q (newEnv scope s.heap.objs.size globals (cellsFrom (s.heap.objs.size + 1) scope.names closure) qual func code (some around) builtins)
      { s with heap := pushCells (s.heap.push { cls := .type "dict", data := .dict #[] }) scope.names }) :
    wpAny M A (newFunctionEnv scope globals closure [] qual func code (some around) builtins) Q E s := by
  simp only [newFunctionEnv, Option.isSome_some, if_true]
  refine wpAny_bind (wpAny_alloc ?_)
  refine wpAny_bind (wpAny_layCells _ (fun n k c => rfl) scope.names closure _ _ ?_)
  rw [show ({ s with heap := s.heap.push { cls := .type "dict", data := .dict #[] } } : Shared).heap.objs.size = s.heap.objs.size + 1 from Heap.size_push ..]
  rw [List.forIn_nil]
  exact wpAny_bind (wpAny_pure (wpAny_pure h))

/-- every name of the written scope, in the scope that runs -/
theorem lookup_relS {sc : Scope} : ∀ {names : List (Str × NameKind)} {x : Str} {k : NameKind},
    (names.map fun (n, k) => if (k == NameKind.free && sc.kind == .function && sc.names.lookup n == some .cell) then (n, NameKind.cell) else (n, k)).lookup x = some k →
    ∃ k', names.lookup x = some k' ∧ (k = k' ∨ (k' = .free ∧ k = .cell))
  | [], _, _, h => by simp at h
  | (n, k₀) :: r, x, k, h => by
    have ih := @lookup_relS sc r x k
    have h' : List.lookup x ((if (k₀ == NameKind.free && sc.kind == .function && sc.names.lookup n == some .cell) = true then (n, NameKind.cell) else (n, k₀)) :: (r.map _)) = some k := h
    cases hx : x == n with
    | true =>
      simp only [List.lookup_cons, hx]
      by_cases hc : (k₀ == NameKind.free && sc.kind == .function && sc.names.lookup n == some .cell) = true
      · rw [if_pos hc] at h'
        simp only [List.lookup_cons, hx] at h'
        cases h'
        simp only [Bool.and_eq_true, beq_iff_eq] at hc
        exact ⟨k₀, rfl, .inr ⟨hc.1.1, rfl⟩⟩
      · rw [if_neg hc] at h'
        simp only [List.lookup_cons, hx] at h'
        cases h'
        exact ⟨_, rfl, .inl rfl⟩
    | false =>
      simp only [List.lookup_cons, hx]
      by_cases hc : (k₀ == NameKind.free && sc.kind == .function && sc.names.lookup n == some .cell) = true
      · rw [if_pos hc] at h'
        simp only [List.lookup_cons, hx] at h'
        exact ih h'
      · rw [if_neg hc] at h'
        simp only [List.lookup_cons, hx] at h'
        exact ih h'
/-- the names of a comprehension's block: its own (with their places in N), or captured -/
structure BlkOk (N : List Str) (sc scope : Scope) (own : List (Str × Nat)) : Prop where
  kind : scope.kind = .function
  uniq : ∀ y ∈ scope.names, scope.names.lookup y.1 = some y.2
  ix : ∀ p ∈ own, N[p.2]? = some p.1
  free : ∀ y ∈ scope.names, y.2 = .free → sc.names.lookup y.1 = some .cell ∨ sc.names.lookup y.1 = some .free
  own : ∀ y ∈ scope.names, y.2 = .local ∨ y.2 = .cell → y.1 ∈ own.map (·.1) ∨ y.1 ∉ N
/-- the slots of the block's own names forgotten -/
def wipe (σ : St) : List Nat → St
  | [] => σ
  | v :: vs => (wipe σ vs).set v none
theorem wipe_length (σ : St) : ∀ vs : List Nat, (wipe σ vs).length = σ.length
  | [] => rfl
  | v :: vs => by unfold wipe; rw [List.length_set, wipe_length σ vs]
theorem wipe_some {σ : St} {i : Nat} {x : V} : ∀ {vs : List Nat}, (wipe σ vs)[i]? = some (some x) → σ[i]? = some (some x) ∧ i ∉ vs
  | [], h => ⟨h, by simp⟩
  | v :: vs, h => by
    unfold wipe at h
    by_cases hi : v = i
    · subst hi
      by_cases hv : v < (wipe σ vs).length
      · rw [List.getElem?_set_self hv] at h; cases h
      · rw [List.getElem?_eq_none (by simpa using hv)] at h; cases h
    · rw [List.getElem?_set_ne hi] at h
      obtain ⟨h1, h2⟩ := wipe_some h
      exact ⟨h1, by simp only [List.mem_cons, not_or]; exact ⟨fun e => hi e.symm, h2⟩⟩

/-- the context of a block that starts at s, its iterator's objects at fp -/
abbrev Cx.blk (X : Cx) (s : Shared) (H : Hp) (scope : Scope) (cenv : Env) (fp : List Addr) : Cx := { X with s₀ := s, H₀ := H, env := cenv, outer := X.stack, ex := fp, fn := fun x => scope.names.lookup x == some .cell, pn := [], xe := fun _ _ => False }
section
variable {X : Cx} {pins : List (Addr × Obj)} {σ : St} {H : Hp} {s : Shared}
theorem block_start {scope : Scope} {own : List (Str × Nat)} {fp : List Addr} (I : Inv X pins σ H s) (ok : BlkOk X.N X.env.scope scope own) (hN : X.N.Nodup) (hfp : ∀ b ∈ fp, FpOk X pins H b ∧ b < s.heap.objs.size) :
    Inv (X.blk s H scope (compEnvC scope (cellsFrom (s.heap.objs.size + 1) scope.names (cloFrom X.env.cells scope.names [])) s.heap.objs.size X.env) fp) [] (wipe σ (own.map (·.2))) H { s with heap := pushCells (s.heap.push { cls := .type "dict", data := .dict #[] }) scope.names } := by
  have hfree : ∀ y ∈ scope.names, y.2 = .free → ∃ c, X.env.cells.lookup y.1 = some c := fun y hy e => by
    rcases ok.free y hy e with k | k
    · exact I.ok.has _ (.inl k)
    · exact I.ok.has _ (.inr k)
  generalize hcenv : compEnvC scope (cellsFrom (s.heap.objs.size + 1) scope.names (cloFrom X.env.cells scope.names [])) s.heap.objs.size X.env = cenv
  have kp : ∀ b o, s.heap.get? b = some o → (pushCells (s.heap.push { cls := .type "dict", data := .dict #[] }) scope.names).get? b = some o := fun b o e => pushCells_keeps _ _ _ _ (Heap.get?_push_of_some _ e)
  have hL : cenv.locals = s.heap.objs.size := by rw [← hcenv]; rfl
  have hcl : cenv.cells = cellsFrom (s.heap.objs.size + 1) scope.names (cloFrom X.env.cells scope.names []) := by rw [← hcenv]; rfl
  have hsc : cenv.scope = relS scope X.env.scope := by rw [← hcenv]; rfl
  rw [← Heap.size_push s.heap { cls := .type "dict", data := .dict #[] }] at hcl
  have cm : ∀ {y c}, (y, c) ∈ cloFrom X.env.cells scope.names [] → X.env.cells.lookup y = some c ∧ c < s.heap.objs.size := fun {y c} hm => by
    rcases cloFrom_mem hm with hm | ⟨h1, rfl⟩
    · cases hm
    · obtain ⟨c, hc⟩ := hfree _ h1 rfl
      rw [hc]
      obtain ⟨w, z⟩ := I.cell _ _ hc
      exact ⟨rfl, z.lt⟩
  have mem : ∀ {y c}, cenv.cells.lookup y = some c → (X.env.cells.lookup y = some c ∧ c < s.heap.objs.size) ∨ (s.heap.objs.size + 1 ≤ c ∧ CellAt (pushCells (s.heap.push { cls := .type "dict", data := .dict #[] }) scope.names) c none) := fun {y c} e => by
    rw [hcl] at e
    rcases cells_mem (PySem.mem_of_lookup e) with hm | ⟨_, h2, h3⟩
    · exact .inl (cm hm)
    · rw [Heap.size_push] at h2; exact .inr ⟨h2, h3⟩
  have look : ∀ {y}, scope.names.lookup y = some .free → ∃ c, cenv.cells.lookup y = some c ∧ X.env.cells.lookup y = some c := fun {y} hl => by
    have hy : (y, NameKind.free) ∈ scope.names := PySem.mem_of_lookup hl
    obtain ⟨c', e'⟩ := mem_lookup (cells_acc (names := scope.names) (n := (s.heap.push { cls := .type "dict", data := .dict #[] }).objs.size) (cloFrom_has (cells := X.env.cells) (acc := []) hy))
    rw [← hcl] at e'
    refine ⟨c', e', ?_⟩
    rw [hcl] at e'
    rcases cells_mem (PySem.mem_of_lookup e') with hm | ⟨h1, _, _⟩
    · exact (cm hm).1
    · have := ok.uniq _ h1
      rw [hl] at this; cases this
  have okB : (X.blk s H scope cenv fp).Ok := by
    refine ⟨I.ok.mod, by show cenv.scope.kind = _; rw [hsc]; exact ok.kind, by show cenv.globals = _; rw [← hcenv]; exact I.ok.glob, by show cenv.builtins = _; rw [← hcenv]; exact I.ok.blt, by show s.heap.objs.size ≤ cenv.locals; rw [hL]; exact Nat.le_refl _,
      fun y z c e1 e2 => ?_, fun y hy => ?_, fun y c z e => ?_, I.ok.hd, I.ok.frames, .inl rfl, fun b hb => ⟨?_, fun y c e z => ?_⟩, I.bs, Nat.le_trans I.ok.bsz I.sz, fun b o e hb => ?_, fun b hb z => ?_, I.stack, I.stkFree⟩
    · have e1 : cenv.cells.lookup y = some c := e1
      have e2 : cenv.cells.lookup z = some c := e2
      rw [hcl] at e1 e2
      refine cells_inj (fun p hp => ?_) (fun y z c a b => I.ok.inj y z c (cm a).1 (cm b).1) (PySem.mem_of_lookup e1) (PySem.mem_of_lookup e2)
      rw [Heap.size_push]
      exact Nat.lt_succ_of_lt (cm (y := p.1) (c := p.2) hp).2
    · show ∃ c, cenv.cells.lookup y = some c
      have key : ∀ k, cenv.kindOf y = some k → (k = .cell ∨ k = .free) → ∃ c, cenv.cells.lookup y = some c := fun k hk hk' => by
        unfold Env.kindOf at hk
        rw [hsc] at hk
        obtain ⟨k', e, r⟩ := lookup_relS hk
        have : k' = .cell ∨ k' = .free := by
          rcases r with rfl | ⟨rfl, _⟩
          · exact hk'
          · exact .inr rfl
        rcases this with rfl | rfl
        · obtain ⟨c, hm⟩ := cells_has (n := (s.heap.push { cls := .type "dict", data := .dict #[] }).objs.size) (acc := cloFrom X.env.cells scope.names []) (PySem.mem_of_lookup e)
          obtain ⟨c', e'⟩ := mem_lookup hm
          exact ⟨c', by rw [hcl]; exact e'⟩
        · obtain ⟨c, h1, _⟩ := look e
          exact ⟨c, h1⟩
      rcases hy with hy | hy
      · exact key _ hy (.inl rfl)
      · exact key _ hy (.inr rfl)
    · have z : (scope.names.lookup y == some NameKind.cell) = true := z
      have z : scope.names.lookup y = some .cell := by simpa using z
      have e : cenv.cells.lookup y = some c := e
      rw [hcl] at e
      rcases cells_mem (PySem.mem_of_lookup e) with hm | ⟨_, h2, _⟩
      · rcases cloFrom_mem hm with hm | ⟨h1, _⟩
        · cases hm
        · have q := ok.uniq _ h1
          rw [z] at q; cases q
      · rw [Heap.size_push] at h2
        exact Nat.le_of_succ_le h2
    · show b ≠ cenv.locals
      rw [hL]; exact Nat.ne_of_lt (hfp b hb).2
    · have e : cenv.cells.lookup y = some c := e
      rcases mem e with ⟨h1, _⟩ | ⟨h1, _⟩
      · exact (hfp b hb).1.2.2.2.2.1 y c h1 z
      · have h2 : s.heap.objs.size + 1 ≤ b := by rw [← z]; exact h1
        exact absurd (Nat.lt_of_lt_of_le (hfp b hb).2 (Nat.le_of_succ_le h2)) (Nat.lt_irrefl _)
    · rcases (hfp b hb).1.2.2.2.1 with z | z
      · exact I.ok.noex b o e z
      · exact absurd (Nat.lt_of_lt_of_le (Heap.lt_size e) (Nat.le_trans I.ok.bsz z)) (Nat.lt_irrefl _)
    · rcases List.mem_cons.mp (I.stkSub b z) with z | z
      · exact (hfp b hb).1.2.1 z
      · exact (hfp b hb).1.2.2.1 z
  refine ⟨okB, rfl, I.bare, Un.kept kp, ⟨fun _ => none, ?_, fun i y av e1 e2 e3 => ?_⟩, fun y c e => ?_, ?_, fun y c e => ?_, fun p hp => ?_, I.hok.kept kp, by rw [wipe_length]; exact I.len⟩
  · show Heap.Ns _ cenv.locals _
    rw [hL]
    exact Heap.Ns.keeps (Heap.Ns.new ..) fun b o e => pushCells_keeps _ _ _ _ e
  · obtain ⟨e2, hne⟩ := wipe_some e2
    have hfr : scope.names.lookup y = some .free ∧ (cenv.kindOf y = some .cell ∨ cenv.kindOf y = some .free) := by
      have key : ∀ k, cenv.scope.names.lookup y = some k → k = .local ∨ k = .cell ∨ k = .free → scope.names.lookup y = some .free ∧ (cenv.kindOf y = some .cell ∨ cenv.kindOf y = some .free) := fun k hk hk' => by
        have hk0 := hk
        rw [hsc] at hk
        obtain ⟨k', e, r⟩ := lookup_relS hk
        have no : ¬ (k' = .local ∨ k' = .cell) := fun hh => by
          rcases ok.own _ (PySem.mem_of_lookup e) hh with e' | e'
          · obtain ⟨p, hp, hpy⟩ := List.mem_map.mp e'
            have e3 := ok.ix p hp
            have : p.1 = y := hpy
            rw [this] at e3
            exact hne (List.mem_map.mpr ⟨p, hp, nodup_ix hN e3 e1⟩)
          · exact e' (List.mem_of_getElem? e1)
        rcases r with rfl | ⟨rfl, rfl⟩
        · rcases hk' with rfl | rfl | rfl
          · exact absurd (.inl rfl) no
          · exact absurd (.inr rfl) no
          · exact ⟨e, .inr hk0⟩
        · exact ⟨e, .inl hk0⟩
      have e3 : Vis cenv.scope y := e3
      rcases e3 with e3 | e3 | e3
      · exact key _ e3 (.inl rfl)
      · exact key _ e3 (.inr (.inl rfl))
      · exact key _ e3 (.inr (.inr rfl))
    obtain ⟨m, hn, hl⟩ := I.loc
    have hvis : Vis X.env.scope y := (ok.free _ (PySem.mem_of_lookup hfr.1) rfl).elim (fun k => .inr (.inl k)) (fun k => .inr (.inr k))
    obtain ⟨w, r, q⟩ := hl i y av e1 e2 hvis
    refine ⟨w, r, .inr ⟨hfr.2, ?_⟩⟩
    obtain ⟨c, h1, h2⟩ := look hfr.1
    rcases q with ⟨k, _⟩ | ⟨_, c', e', z⟩
    · have k : X.env.scope.names.lookup y = some .local := k
      rcases ok.free _ (PySem.mem_of_lookup hfr.1) rfl with k' | k' <;> rw [show X.env.scope.names.lookup y = _ from k'] at k <;> cases k
    · rw [h2] at e'; cases e'
      exact ⟨c, h1, z.keeps kp⟩
  · have e : cenv.cells.lookup y = some c := e
    rcases mem e with ⟨h1, _⟩ | ⟨_, z⟩
    · obtain ⟨w, z⟩ := I.cell y c h1
      exact ⟨w, z.keeps kp⟩
    · exact ⟨_, z⟩
  · show H cenv.locals = none
    rw [hL]; exact I.hok.fresh (Nat.le_refl _)
  · have e : cenv.cells.lookup y = some c := e
    rcases mem e with ⟨h1, _⟩ | ⟨h1, _⟩
    · exact I.freeC y c h1
    · exact I.hok.fresh (Nat.le_of_succ_le h1)
  · exact absurd (show p ∈ ([] : List (Addr × Obj)) ++ [] from hp) (by simp)

/-- an item appended to a tracked list -/
theorem app_ok {E : Value → Shared → Prop} {D : Addr} {xs : List V} {y : V} {v : Value} {Q : Value → Shared → Prop} (I : Inv X pins σ H s) (hD : H D = some (.lst xs)) (hz : xs.length < sizeLine) (r : RelV y v)
    (h : ∀ s', Inv X pins σ (upd H D (.lst (xs ++ [y]))) s' → Q .none s') : wpAny (model X.prog X.w) X.A (call (.builtin "list.append") [.ref D, v]) Q E s := by
  obtain ⟨hz', its, n, ri, e⟩ := I.hok D _ hD
  have hl := ri.length
  refine append_at (hsz := by rw [List.size_toArray]; omega) e fun h' sb ho' => ?_
  refine h { s with heap := h' } (I.write (t' := s.toks) (by rw [hD]; trivial) (.inl rfl) (fun b u hb q => (sb.2 b hb).trans q) ⟨_, ho'⟩ ⟨by rw [List.length_append]; exact hz, its ++ [v], n + 1, ri.append (.cons r .nil), ?_⟩)
  rw [ho']
  simp

/-- a clause's tests -/
def PTs (X : Cx) (ifs : List Expr) (t : TT) : Prop :=
  ∀ (pins : List (Addr × Obj)) (s : Shared) (σ : St) (H : Hp) (Q : Bool → Hp → Prop), Inv X pins σ H s → t σ H Q →
    wpAny (model X.prog X.w) X.A (forIn ifs true fun c r => if r = true then do let ok ← isTrue c X.env (eval c X.env); pure (ForInStep.yield ok) else pure (ForInStep.yield r)) (TP X pins σ Q) X.xe s
def tYes : TT := fun _ H Q => Q true H
theorem pts_one {c : Expr} {t : TT} (h : PT X c t) : PTs X [c] t := fun pins s σ H Q I hw => wpAny_tests_one (h pins s σ H Q I hw)
end

theorem thnF {α : Type} {t : Sem α} {Q Q' : α → Shared → Prop} {M : Model} {A : Around} {E : Value → Shared → Prop} {s : Shared} (h : wpAny M A t Q (fun _ _ => False) s) (hQ : ∀ a s, Q a s → Q' a s) : wpAny M A t Q' E s := wpAny_mono h hQ fun _ _ z => False.elim z

/-- the loop of a list comprehension's block, the target of any form (codeAny_compLoop_tests asks a target that no tuple goes to; statement and proof follow it, PyProof/CompMap.lean:41-61, with the step letOwnedTupleGo kept) -/
theorem compLoop_any {prog : Program} {w : World} {A : Around} {R : Result → Shared → Prop} {s : Shared} {elt target iter : Expr} {ifs : List Expr} {scope : Scope} {pos : Pos} {it acc : Value} {env : Env} (I : Nat → Shared → Prop)
    (turn : ∀ n s, I n s → wpAny (model prog w) A (pyNext it) (fun r s₁ => match r with
      | none => R (.ok .next) s₁
      | some v => wpAny (model prog w) A (letOwnedTupleGo target it v) (fun _ s₁' => wpAny (model prog w) A (assign target env v) (fun _ s₂ =>
          wpAny (model prog w) A (forIn ifs true fun c r => if r = true then do let ok ← isTrue c env (eval c env); pure (ForInStep.yield ok) else pure (ForInStep.yield r)) (fun ok s₃ =>
            if ok = true then wpAny (model prog w) A (eval elt env) (fun x s₄ =>
              wpAny (model prog w) A (call (.builtin "list.append") [acc, x]) (fun _ s₅ => ∃ m, m < n ∧ I m s₅) (notedBy (model prog w) A env fun e s' => R (.error e) s') s₄) (notedBy (model prog w) A env fun e s' => R (.error e) s') s₃
            else ∃ m, m < n ∧ I m s₃) (notedBy (model prog w) A env fun e s' => R (.error e) s') s₂) (notedBy (model prog w) A env fun e s' => R (.error e) s') s₁') (notedBy (model prog w) A env fun e s' => R (.error e) s') s₁) (notedBy (model prog w) A env fun e s' => R (.error e) s') s)
    (n : Nat) (h : I n s) :
    codeAny (model prog w) A (.compLoop (.ListComp elt [⟨target, iter, ifs, 0⟩] scope pos) 0 it acc env) R s := by
  refine codeAny_loop rfl I (fun n s hI => ?_) n h
  show wpAny _ A ((compTurn (.ListComp elt [⟨target, iter, ifs, 0⟩] scope pos) 0 it acc env).onRaise (fun x => do noteFrame x env; theTreesLotGoes x)) _ _ s
  refine wpAny_noted ?_
  rw [compTurn_list]
  refine wpAny_bind (wpAny_standAt (wpAny_bind (wpAny_mono (turn n s hI) (fun r s₁ h₁ => ?_) fun _ _ h' => h')))
  cases r with
  | none => exact wpAny_pure h₁
  | some v =>
    refine wpAny_bind (wpAny_mono h₁ (fun _ s₁' h₁' => ?_) fun _ _ h' => h')
    refine wpAny_bind (wpAny_mono h₁' (fun _ s₂ h₂ => wpAny_bind (wpAny_mono h₂ (fun ok s₃ h₃ => ?_) fun _ _ h' => h')) fun _ _ h' => h')
    cases ok with
    | false => exact wpAny_pure ⟨rfl, h₃⟩
    | true =>
      exact wpAny_bind (wpAny_bind (wpAny_mono h₃ (fun x s₄ h₄ => wpAny_bind (wpAny_mono h₄ (fun _ s₅ h₅ => wpAny_pure (wpAny_pure ⟨rfl, h₅⟩)) fun _ _ h' => h')) fun _ _ h' => h'))

section
variable {X : Cx}
/-- [elt for target in iter if ..]: D the new list; W by the turn and a measure, Nx what a turn is to reach -/
def tLc (wi : TI) (g : TG) (tt : TT) (te : TE) (vs : List Nat) : TE := fun σ H Q => wi σ H fun J H1 => ∀ D, H1 D = none → ∃ W : Nat → Nat → Hp → Prop, (∃ m, W 0 m (upd H1 D (.lst []))) ∧ ∀ i m H, W i m H →
  (J.stop i H ∧ Q (.ref D) H) ∨ (J.go i H ∧ ∃ Nx : Hp → Prop, (∀ H', Nx H' → ∃ m', m' < m ∧ W (i + 1) m' H') ∧ ∀ x H', J.yld i H x H' → g x (wipe σ vs) H' fun σ2 H2 => wipe σ2 vs = wipe σ vs ∧ tt σ2 H2 fun b H3 =>
    if b = true then te σ2 H3 fun y H4 => ∃ acc, H4 D = some (.lst acc) ∧ acc.length < sizeLine ∧ Nx (upd H4 D (.lst (acc ++ [y]))) else Nx H3)
theorem lc_core {pins : List (Addr × Obj)} {s : Shared} {σ : St} {H : Hp} {Q : VK} {elt tg iter : Expr} {ifs : List Expr} {scope : Scope} {own : List (Str × Nat)} {pos pos' : Pos} {wi : TI} {g : TG} {tt : TT} {te : TE} {use : Option (Value → Sem Unit)} {Qf : Value → Shared → Prop}
    (hc : X.calm = true) (hN : X.N.Nodup) (I : Inv X pins σ H s) (hi : PI X tg iter wi) (ok : BlkOk X.N X.env.scope scope own)
    (hg : ∀ (s : Shared) (H : Hp) (C : Addr) (cl : List (Str × Addr)) (fp : List Addr), PG (X.blk s H scope (compEnvC scope cl C X.env) fp) tg g) (ht : ∀ (s : Shared) (H : Hp) (C : Addr) (cl : List (Str × Addr)) (fp : List Addr), PTs (X.blk s H scope (compEnvC scope cl C X.env) fp) ifs tt)
    (he : ∀ (s : Shared) (H : Hp) (C : Addr) (cl : List (Str × Addr)) (fp : List Addr), PE (X.blk s H scope (compEnvC scope cl C X.env) fp) elt te) (hs : ∀ x, foldedSetIterable iter X.env x = pure x)
    (h : tLc wi g tt te (own.map (·.2)) σ H Q)
    (hRR : ∀ D C s' m H', Inv X pins σ H' s' → Q (.ref D) H' → s'.heap.Ns C m → FpOk X pins H' C → compPost (model X.prog X.w) X.A X.xe use Qf (.ref D) C (.ok .next) s') :
    wpAny (model X.prog X.w) X.A (comprehension (.ListComp elt [⟨tg, iter, ifs, 0⟩] scope pos) scope X.env pos' (newList []) false (eval iter X.env) use) Qf X.xe s := by
  have hfree : ∀ y ∈ scope.names, y.2 = .free → ∃ c, X.env.cells.lookup y.1 = some c := fun y hy e => by
    rcases ok.free y hy e with k | k
    · exact I.ok.has _ (.inl k)
    · exact I.ok.has _ (.inr k)
  refine wpAny_comprehension_free (use := use) rfl hs (closure_ok hfree) ok.kind (fun y hy e => by rw [ok.uniq y hy, e])
    (thn (hi pins s σ H _ I h) fun xv s1 hx => thn hx fun itv s2 h2 => ?_)
  obtain ⟨it, fp, tn, J, H2, e, I2, T, st2, f2, q⟩ := h2
  subst e
  refine wpAny_newObj_type (newEnv_comp ?_) (by show 0 ≤ sizeLine; decide)
  generalize hD : s2.heap.objs.size = D
  have hDn : H2 D = none := I2.hok.fresh (Nat.le_of_eq hD)
  obtain ⟨W, ⟨m0, w0⟩, turn⟩ := q D hDn
  -- the new list
  generalize hs3 : ({ s2 with heap := s2.heap.push { cls := .type "list", data := .seq ([] : List Value).toArray } } : Shared) = s3
  have I3 : Inv X pins σ (upd H2 D (.lst [])) s3 := by
    rw [← hs3]
    refine I2.laid (t' := s2.toks) (fun b o e => Heap.get?_push_of_some _ e) (Nat.le_of_eq hD) ⟨Nat.zero_le _, [], 0, .nil, ?_⟩
    rw [← hD]
    exact Heap.get?_push_size _ rfl
  have h3 : s3.heap = s2.heap.push { cls := .type "list", data := .seq ([] : List Value).toArray } := by rw [← hs3]
  have sz : ∀ b ∈ fp, b < s2.heap.objs.size := fun b hb => by
    obtain ⟨o, e, _⟩ := T.obj _ _ st2 b hb
    exact Heap.lt_size e
  have f3 : ∀ b ∈ fp, FpOk X pins (upd H2 D (.lst [])) b ∧ b < s3.heap.objs.size := fun b hb => by
    have hlt := sz b hb
    refine ⟨⟨?_, (f2 b hb).2⟩, by rw [h3, Heap.size_push]; exact Nat.lt_succ_of_lt hlt⟩
    rw [upd_ne (by rw [← hD]; exact Nat.ne_of_lt hlt)]
    exact (f2 b hb).1
  have st3 : tn 0 s3.heap := T.keep _ _ _ st2 fun b _ o e => by rw [h3]; exact Heap.get?_push_of_some _ e
  have I4 := block_start I3 ok hN f3
  have pg := hg s3 (upd H2 D (.lst [])) s3.heap.objs.size (cellsFrom (s3.heap.objs.size + 1) scope.names (cloFrom X.env.cells scope.names [])) fp
  have pt := ht s3 (upd H2 D (.lst [])) s3.heap.objs.size (cellsFrom (s3.heap.objs.size + 1) scope.names (cloFrom X.env.cells scope.names [])) fp
  have pe := he s3 (upd H2 D (.lst [])) s3.heap.objs.size (cellsFrom (s3.heap.objs.size + 1) scope.names (cloFrom X.env.cells scope.names [])) fp
  show codeAny _ _ (.compStart (.ListComp elt [⟨tg, iter, ifs, 0⟩] scope pos) 0 (.ref it) (.ref D) (compEnvC scope (cellsFrom (s3.heap.objs.size + 1) scope.names (cloFrom X.env.cells scope.names [])) s3.heap.objs.size X.env)) (compPost (model X.prog X.w) X.A X.xe use Qf (.ref D) s3.heap.objs.size) { s3 with heap := pushCells (s3.heap.push { cls := .type "dict", data := .dict #[] }) scope.names }
  have nfp : ∀ b ∈ fp, (upd H2 D (.lst [])) b = none := fun b hb => (f3 b hb).1.1
  generalize hce : compEnvC scope (cellsFrom (s3.heap.objs.size + 1) scope.names (cloFrom X.env.cells scope.names [])) s3.heap.objs.size X.env = ce at I4 pg pt pe ⊢
  have cL : ce.locals = s3.heap.objs.size := by subst hce; rfl
  generalize hH3 : upd H2 D (.lst []) = H3 at I3 I4 pg pt pe w0 nfp f3
  generalize hs4 : ({ s3 with heap := pushCells (s3.heap.push { cls := .type "dict", data := .dict #[] }) scope.names } : Shared) = s4 at I4 ⊢
  have st4 : tn 0 s4.heap := T.keep _ _ _ st3 fun b _ o e => by rw [← hs4]; exact pushCells_keeps _ _ _ _ (Heap.get?_push_of_some _ e)
  have stat : ∀ {σ' : St} {H' : Hp} {s' : Shared}, Inv (X.blk s3 H3 scope ce fp) [] σ' H' s' → (∀ b ∈ fp, H' b = none) → ∀ b ∈ fp, FpOk (X.blk s3 H3 scope ce fp) [] H' b := fun {σ' H' s'} I' hn b hb =>
    ⟨hn b hb, (I'.ok.exf b hb).1, I'.ok.exfs b hb, .inl hb, fun x c e => (I'.ok.exf b hb).2 x c e, fun p hp => absurd (show p ∈ ([] : List (Addr × Obj)) ++ [] from hp) (by simp)⟩
  have loop : codeAny (model X.prog X.w) X.A (.compLoop (.ListComp elt [⟨tg, iter, ifs, 0⟩] scope pos) 0 (.ref it) (.ref D) ce) (compPost (model X.prog X.w) X.A X.xe use Qf (.ref D) s3.heap.objs.size) s4 := by
    refine compLoop_any (fun n s' => ∃ i H', Inv (X.blk s3 H3 scope ce fp) [] (wipe σ (own.map (·.2))) H' s' ∧ tn i s'.heap ∧ (∀ b ∈ fp, H' b = none) ∧ W i n H') ?_ m0 ⟨0, H3, I4, st4, nfp, w0⟩
    rintro n s5 ⟨i, H5, I5, st5, n5, w5⟩
    rcases turn i n H5 w5 with ⟨stop, qq⟩ | ⟨go, Nx, hNx, step⟩
    · have td := T.done (X.blk s3 H3 scope ce fp) rfl rfl rfl hc i [] s5 _ H5 (fun _ _ => False) I5 (stat I5 n5) st5 stop
      refine thnF td fun r s6 ⟨hr, I6⟩ => ?_
      subst hr
      -- back in the def's context
      have I7 : Inv X pins σ H5 s6 := I3.call' (ch := fp) I6.os I6.base I6.hok I6.bare fun b hb => ⟨(f3 b hb).1.2.2.2.1, (f3 b hb).1.2.1, (f3 b hb).1.2.2.2.2.1, (f3 b hb).1.2.2.2.2.2⟩
      have nC : H5 s3.heap.objs.size = none := by
        have z : H5 ce.locals = none := I6.free
        rw [cL] at z
        exact z
      obtain ⟨m, hn, _⟩ := I6.loc
      have hn : s6.heap.Ns ce.locals m := hn
      rw [cL] at hn
      exact hRR D s3.heap.objs.size s6 m H5 I7 qq hn (I3.fpOk (Nat.le_refl _) nC)
    · have ti := T.item (X.blk s3 H3 scope ce fp) rfl rfl rfl hc i [] s5 _ H5 (fun _ _ => False) I5 (stat I5 n5) st5 go
      refine thnF ti fun r s6 ⟨u, hr, h6⟩ => ?_
      subst hr
      refine thnF h6 fun _ s7 ⟨x, H7, I7, r7, y7, st7, n7⟩ => ?_
      have I7' := I7.pinned (stat I7 n7) (T.obj _ _ st7)
      refine thnF (pg _ s7 _ H7 x u _ I7' r7 (step x H7 y7)) fun _ s8 ⟨σ8, H8, I8, hw8, q8⟩ => ?_
      refine thnF (pt _ s8 σ8 H8 _ I8 q8) fun b s9 ⟨H9, I9, q9⟩ => ?_
      -- the turn's end
      have fin : ∀ {s' : Shared} {H' : Hp}, Inv (X.blk s3 H3 scope ce fp) ([] ++ pinsAt fp s7.heap) σ8 H' s' → Nx H' → ∃ m, m < n ∧ ∃ i H', Inv (X.blk s3 H3 scope ce fp) [] (wipe σ (own.map (·.2))) H' s' ∧ tn i s'.heap ∧ (∀ b ∈ fp, H' b = none) ∧ W i m H' := fun {s' H'} I' nx => by
        obtain ⟨m', hm, w'⟩ := hNx H' nx
        have pin' : ∀ b ∈ fp, ∀ o, s7.heap.get? b = some o → s'.heap.get? b = some o ∧ H' b = none := fun b hb o e =>
          let z := I'.pin (b, o) (List.mem_append_right _ (List.mem_append_right _ (mem_pinsAt hb e)))
          ⟨z.1, z.2.1⟩
        have hl : (wipe σ (own.map (·.2))).length = σ8.length := by rw [← hw8, wipe_length]
        refine ⟨m', hm, i + 1, H', (I'.unpinned (pins := [])).weak hl (fun j v e => ?_), T.keep _ _ _ st7 fun b hb o e => (pin' b hb o e).1, fun b hb => ?_, w'⟩
        · rw [← hw8] at e
          exact (wipe_some e).1
        · obtain ⟨o, e, _⟩ := T.obj _ _ st7 b hb
          exact (pin' b hb o e).2
      cases b with
      | false =>
        simp only [Bool.false_eq_true, if_false] at q9 ⊢
        exact fin I9 q9
      | true =>
        simp only [if_true] at q9 ⊢
        refine thnF (pe _ s9 σ8 H9 _ I9 q9) fun z s10 ⟨yv, H10, I10, r10, acc, hD10, hz10, nx⟩ => ?_
        exact app_ok (X := X.blk s3 H3 scope ce fp) I10 hD10 hz10 r10 fun s11 I11 => fin I11 nx
  exact codeAny_compStart_list loop (T.self X.A 0 _ _ _ st4 loop)
/-- as a value -/
theorem pe_lc {elt tg iter : Expr} {ifs : List Expr} {scope : Scope} {own : List (Str × Nat)} {pos : Pos} {wi : TI} {g : TG} {tt : TT} {te : TE} (hc : X.calm = true) (hN : X.N.Nodup) (hi : PI X tg iter wi) (ok : BlkOk X.N X.env.scope scope own)
    (hg : ∀ (s : Shared) (H : Hp) (C : Addr) (cl : List (Str × Addr)) (fp : List Addr), PG (X.blk s H scope (compEnvC scope cl C X.env) fp) tg g) (ht : ∀ (s : Shared) (H : Hp) (C : Addr) (cl : List (Str × Addr)) (fp : List Addr), PTs (X.blk s H scope (compEnvC scope cl C X.env) fp) ifs tt)
    (he : ∀ (s : Shared) (H : Hp) (C : Addr) (cl : List (Str × Addr)) (fp : List Addr), PE (X.blk s H scope (compEnvC scope cl C X.env) fp) elt te) (hs : ∀ x, foldedSetIterable iter X.env x = pure x := by intro _; rfl) :
    PE X (.ListComp elt [⟨tg, iter, ifs, 0⟩] scope pos) (tLc wi g tt te (own.map (·.2))) := by
  intro pins s σ H Q I h
  rw [eval_ListComp]
  refine lc_core hc hN I hi ok hg ht he hs h fun D C s' m H' I' q hn f => ⟨m, hn, fun h'' sb => ?_⟩
  obtain ⟨f0, f1, f2, f3, f4, f5⟩ := f
  exact ⟨.ref D, H', I'.turned (t' := s'.toks) (fun b o hb e => (sb.2 b hb).trans e) f0 f1 f3 f4 f5, rfl, q⟩
end

/-! ### the forms one uses -/
/-- over a list that the block leaves as it is -/
theorem lc_list {K : PySem.W.Frag} {a : Addr} {xs : List V} {g : TG} {tt : TT} {te : TE} {vs : List Nat} {σ : St} {H1 : Hp} {D : Addr} {Qd : Hp → Prop} (Pv : Nat → Hp → Prop) (h0 : Pv 0 (upd H1 D (.lst []))) (hl : ∀ i H, i ≤ xs.length → Pv i H → SqL K H a xs)
    (hs : ∀ i x H, xs[i]? = some x → Pv i H → g x (wipe σ vs) H fun σ2 H2 => wipe σ2 vs = wipe σ vs ∧ tt σ2 H2 fun b H3 =>
      if b = true then te σ2 H3 fun y H4 => ∃ acc, H4 D = some (.lst acc) ∧ acc.length < sizeLine ∧ Pv (i + 1) (upd H4 D (.lst (acc ++ [y]))) else Pv (i + 1) H3) (hd : ∀ H, Pv xs.length H → Qd H) :
    ∃ W : Nat → Nat → Hp → Prop, (∃ m, W 0 m (upd H1 D (.lst []))) ∧ ∀ i m H, W i m H →
      ((Itl K a).stop i H ∧ Qd H) ∨ ((Itl K a).go i H ∧ ∃ Nx : Hp → Prop, (∀ H', Nx H' → ∃ m', m' < m ∧ W (i + 1) m' H') ∧ ∀ x H', (Itl K a).yld i H x H' → g x (wipe σ vs) H' fun σ2 H2 => wipe σ2 vs = wipe σ vs ∧ tt σ2 H2 fun b H3 =>
        if b = true then te σ2 H3 fun y H4 => ∃ acc, H4 D = some (.lst acc) ∧ acc.length < sizeLine ∧ Nx (upd H4 D (.lst (acc ++ [y]))) else Nx H3) := by
  refine ⟨fun i m H => m = xs.length - i ∧ i ≤ xs.length ∧ Pv i H, ⟨xs.length, by simp, Nat.zero_le _, h0⟩, ?_⟩
  rintro i m H ⟨rfl, hi, p⟩
  have q := hl i H hi p
  by_cases hlt : i < xs.length
  · refine .inr ⟨⟨xs, xs[i], q, by simp [hlt]⟩, Pv (i + 1), fun H' p' => ⟨xs.length - (i + 1), by omega, rfl, hlt, p'⟩, fun x H' y => ?_⟩
    obtain ⟨e, y⟩ := y
    subst e
    exact hs i x _ (y xs q) p
  · have e : i = xs.length := by omega
    subst e
    exact .inl ⟨⟨xs, q, Nat.le_refl _⟩, hd H p⟩
def blkC (N : List Str) (sc scope : Scope) (own : List (Str × Nat)) : Bool :=
  (match scope.kind with | .function => true | _ => false) && (scope.names.all fun y => decide (scope.names.lookup y.1 = some y.2)) && (own.all fun p => decide (N[p.2]? = some p.1)) &&
    (scope.names.all fun y => match y.2 with
      | .free => (match sc.names.lookup y.1 with | some .cell => true | some .free => true | _ => false)
      | .local => decide (y.1 ∈ own.map (·.1)) || decide (y.1 ∉ N)
      | .cell => decide (y.1 ∈ own.map (·.1)) || decide (y.1 ∉ N)
      | _ => true)
theorem blkOk_by {N : List Str} {sc scope : Scope} {own : List (Str × Nat)} (h : blkC N sc scope own = true) : BlkOk N sc scope own := by
  unfold blkC at h
  simp only [Bool.and_eq_true, List.all_eq_true, decide_eq_true_eq] at h
  obtain ⟨⟨⟨h1, h2⟩, h3⟩, h4⟩ := h
  refine ⟨?_, h2, h3, fun y hy e => ?_, fun y hy e => ?_⟩
  · split at h1
    · assumption
    · cases h1
  · have q := h4 y hy
    simp only [e] at q
    split at q <;> first | exact .inl (by assumption) | exact .inr (by assumption) | cases q
  · have q := h4 y hy
    rcases e with e | e <;> (simp only [e, Bool.or_eq_true, decide_eq_true_eq] at q; exact q)
end L2

namespace L2
open PySem PySem.Spec PyProof.Rows

section
variable {prog : Program} {w : World} {A : Around} {R : Result → Shared → Prop} {s : Shared} {elt t0 i0 t1 i1 : Expr} {ifs0 ifs1 : List Expr} {scope : Scope} {pos : Pos} {it acc : Value} {env : Env}
end

section
variable {X : Cx}
/-- [elt for tg in iter if .. for tg1 in iter1 if ..]: behind the first clause's store and tests the second source's own loop, from which Nx is reached. vs: the block's names; vs1: those of the second target -/
def tLc2 (wi : TI) (g : TG) (tt : TT) (wi1 : TI) (g1 : TG) (tt1 : TT) (te : TE) (vs vs1 : List Nat) : TE := fun σ H Q => wi σ H fun J H1 => ∀ D, H1 D = none → ∃ W : Nat → Nat → Hp → Prop, (∃ m, W 0 m (upd H1 D (.lst []))) ∧ ∀ i m H, W i m H →
  (J.stop i H ∧ Q (.ref D) H) ∨ (J.go i H ∧ ∃ Nx : Hp → Prop, (∀ H', Nx H' → ∃ m', m' < m ∧ W (i + 1) m' H') ∧ ∀ x H', J.yld i H x H' → g x (wipe σ vs) H' fun σ2 H2 => wipe σ2 vs = wipe σ vs ∧ tt σ2 H2 fun b H3 =>
    if b = true then wi1 σ2 H3 fun J1 H4 => ∃ W1 : Nat → Nat → Hp → Prop, (∃ m, W1 0 m H4) ∧ ∀ j k H, W1 j k H →
      (J1.stop j H ∧ Nx H) ∨ (J1.go j H ∧ ∃ Nx1 : Hp → Prop, (∀ H', Nx1 H' → ∃ k', k' < k ∧ W1 (j + 1) k' H') ∧ ∀ x H', J1.yld j H x H' → g1 x (wipe σ2 vs1) H' fun σ3 H5 => wipe σ3 vs1 = wipe σ2 vs1 ∧ tt1 σ3 H5 fun b H6 =>
        if b = true then te σ3 H6 fun y H7 => ∃ acc, H7 D = some (.lst acc) ∧ acc.length < sizeLine ∧ Nx1 (upd H7 D (.lst (acc ++ [y]))) else Nx1 H6)
    else Nx H3)
end
end L2

namespace L2
open PySem PySem.Spec PyProof.Rows

/-! ### lists of pairs as tables -/
section
variable {κ : Type} [DecidableEq κ]
def valV (kvs : List (κ × V)) (k : κ) : Option V := (kvs.find? fun kv => decide (kv.1 = k)).map (·.2)
/-- in its place, or at the end -/
def putK (kvs : List (κ × V)) (k : κ) (v : V) : List (κ × V) :=
  if (kvs.any fun kv => decide (kv.1 = k)) = true then kvs.map (fun kv => if kv.1 = k then (kv.1, v) else kv) else kvs ++ [(k, v)]
def dropK (kvs : List (κ × V)) (k : κ) : List (κ × V) := kvs.filter fun kv => decide (kv.1 ≠ k)

end

/-! ### a tracked dict, its keys ints and texts or tuples of these -/
/-- raw entries of a dict with tuple keys -/
abbrev KT (H : Hp) : List (List Key × V) → List (List Key × Addr × Value) → Prop := Paired fun p q => p.1 = q.1 ∧ H q.2.1 = some (.tup (p.1.map kV)) ∧ RelV p.2 q.2.2
section
variable {P : Program} {w : World} {H : Hp} {h : Heap} {a : Addr}
end

/-- what the dict at a holds at the key y -/
def DGet (H : Hp) (a : Addr) (y : V) (r : Option V) : Prop :=
  (∃ kvs k, Rd H a (.dK kvs) ∧ y = kV k ∧ r = valV kvs k) ∨ ∃ kvs k b, Rd H a (.dT kvs) ∧ y = .ref b ∧ H b = some (.tup (k.map kV)) ∧ r = valV kvs k
/-- the heap behind a[y] = v -/
def DPut (H : Hp) (a : Addr) (y v : V) (H' : Hp) : Prop :=
  (∃ kvs k, H a = some (.dK kvs) ∧ y = kV k ∧ kvs.length < sizeLine ∧ H' = upd H a (.dK (putK kvs k v))) ∨
  ∃ kvs k b, H a = some (.dT kvs) ∧ y = .ref b ∧ H b = some (.tup (k.map kV)) ∧ kvs.length < sizeLine ∧ H' = upd H a (.dT (putK kvs k v))
section
variable {X : Cx} {pins : List (Addr × Obj)} {σ : St} {H : Hp} {s : Shared} {a : Addr} {y v : V} {u r : Value} {o : Option V} {A : Around} {E : Value → Shared → Prop}

end

section
variable {X : Cx} {pins : List (Addr × Obj)} {σ : St} {H : Hp} {s : Shared} {a : Addr} {kvs : List (Key × V)} {k : Key} {u : Value} {A : Around} {E : Value → Shared → Prop}
end

/-! ### readings and rules -/
/-- the element of a subscription, not a slice -/
def NoSl (i : Expr) : Prop := ∀ ov iv, subscripted i false ov iv = operate [ov, iv] (getItem ov iv)
/-- d[y] -/
def tDGet (td ty : TE) : TE := fun σ H Q => td σ H fun x H1 => ty σ H1 fun y H2 => ∃ a v, x = .ref a ∧ DGet H2 a y (some v) ∧ Q v H2
/-- y in d, y not in d -/
def tDIn (ty td : TE) : TE := fun σ H Q => ty σ H fun y H1 => td σ H1 fun x H2 => ∃ a o, x = .ref a ∧ DGet H2 a y o ∧ Q (.bl o.isSome) H2
def tDNotIn (ty td : TE) : TE := fun σ H Q => ty σ H fun y H1 => td σ H1 fun x H2 => ∃ a o, x = .ref a ∧ DGet H2 a y o ∧ Q (.bl (!o.isSome)) H2
/-- d[y] = v -/
def sDPut (td ty tv : TE) : TS := fun D σ H => tv σ H fun v H1 => td σ H1 fun x H2 => ty σ H2 fun y H3 => ∃ a H4, x = .ref a ∧ DPut H3 a y v H4 ∧ D.nx σ H4
/-- d[y] op= v -/
def sDAug (td ty tv : TE) (rd : V → V → Hp → VK → Prop) : TS := fun D σ H => td σ H fun x H1 => ty σ H1 fun y H2 => ∃ a v, x = .ref a ∧ DGet H2 a y (some v) ∧
  tv σ H2 fun y2 H3 => rd v y2 H3 fun z H4 => ∃ H5, DPut H4 a y z H5 ∧ D.nx σ H5
/-- del d[y] -/
def sDDel (td ty : TE) : TS := fun D σ H => td σ H fun x H1 => ty σ H1 fun y H2 => ∃ a kvs k, x = .ref a ∧ H2 a = some (.dK kvs) ∧ y = kV k ∧ (valV kvs k).isSome = true ∧ D.nx σ (upd H2 a (.dK (dropK kvs k)))

section
variable {X : Cx} {o i e value : Expr} {pos pos' tpos : Pos} {td ty tv : TE}
end

/-! ### displays -/
/-- {}, to be a dict of the kind that is wanted -/
def tDNewK : TE := fun _ H Q => ∀ p, H p = none → Q (.ref p) (upd H p (.dK []))
def tDNewT : TE := fun _ H Q => ∀ p, H p = none → Q (.ref p) (upd H p (.dT []))
section
variable {X : Cx} {pos : Pos}
end

/-- the pairs of a display, from the left -/
def tPairs : List (TE × TE) → St → Hp → (List (V × V) → Hp → Prop) → Prop
  | [], _, H, Q => Q [] H
  | (tk, tv) :: r, σ, H, Q => tk σ H fun x H1 => tv σ H1 fun y H2 => tPairs r σ H2 fun ps H3 => Q ((x, y) :: ps) H3
abbrev VV : List (V × V) → List (Value × Value) → Prop := Paired fun p q => RelV p.1 q.1 ∧ RelV p.2 q.2
def PPs (X : Cx) (pos : Pos) (keys : List (Option Expr)) (values : List Expr) (trs : List (TE × TE)) : Prop :=
  ∀ (pins : List (Addr × Obj)) (s : Shared) (σ : St) (H : Hp) (Q : List (V × V) → Hp → Prop), Inv X pins σ H s → tPairs trs σ H Q →
    wpAny (model X.prog X.w) X.A (evalPairs (pairTrees keys values X.env pos)) (fun vs s' => ∃ ps H', Inv X pins σ H' s' ∧ VV ps vs ∧ Q ps H') X.xe s
def mergeK (kvs more : List (Key × V)) : List (Key × V) := more.foldl (fun acc kv => putK acc kv.1 kv.2) kvs
/-- {k: v, ..} with keys ints and texts; the new dict stands empty while the pairs are made -/
def tDisp (trs : List (TE × TE)) : TE := fun σ H Q => ∀ p, H p = none → tPairs trs σ (upd H p (.dK [])) fun ps H2 => H2 p = some (.dK []) ∧ ∃ kvs : List (Key × V), ps = kvs.map (fun kv => (kV kv.1, kv.2)) ∧ kvs.length ≤ 15 ∧ Q (.ref p) (upd H2 p (.dK (mergeK [] kvs)))
/-! ### methods -/
/-- a method call o.m(e) of a built-in, with one argument: what must be seen of the text -/
structure M1 (X : Cx) (o : Expr) (m : Str) (apos : Pos) (e : Expr) (cpos : Pos) : Prop where
  base : attributeBase o m X.env (eval o X.env) = eval o X.env
  few : ((backTo cpos (starEach [e] X.env)).all (fun x => !x.1) && (backToKw cpos (keywordEach [] X.env)).all (fun x => x.1.isSome)
    && decide (([e] : List Expr).length + ([] : List Keyword).length + (if ([] : List Keyword).isEmpty then 0 else 1) < 30)) = true
  line : (apos.endLine == cpos.line) = true
  trees : backTo cpos (starEach [e] X.env) = [(false, eval e X.env)]
structure M2 (X : Cx) (o : Expr) (m : Str) (apos : Pos) (e f : Expr) (cpos : Pos) : Prop where
  base : attributeBase o m X.env (eval o X.env) = eval o X.env
  few : ((backTo cpos (starEach [e, f] X.env)).all (fun x => !x.1) && (backToKw cpos (keywordEach [] X.env)).all (fun x => x.1.isSome)
    && decide (([e, f] : List Expr).length + ([] : List Keyword).length + (if ([] : List Keyword).isEmpty then 0 else 1) < 30)) = true
  line : (apos.endLine == cpos.line) = true
  trees : backTo cpos (starEach [e, f] X.env) = [(false, eval e X.env), (false, eval f X.env)]

/-- a is a dict, whatever its keys -/
def IsD (H : Hp) (a : Addr) : Prop := (∃ kvs, Rd H a (.dK kvs)) ∨ ∃ kvs, Rd H a (.dT kvs)
section
variable {X : Cx} {pins : List (Addr × Obj)} {σ : St} {H : Hp} {s : Shared} {a : Addr} {y d : V} {u r : Value} {o : Option V} {A : Around} {E : Value → Shared → Prop}
end

def tDGet1 (td ty : TE) : TE := fun σ H Q => td σ H fun x H1 => ∃ a, x = .ref a ∧ IsD H1 a ∧ ty σ H1 fun y H2 => ∃ o, DGet H2 a y o ∧ Q (o.getD .non) H2
def tDGet2 (td ty tx : TE) : TE := fun σ H Q => td σ H fun x H1 => ∃ a, x = .ref a ∧ IsD H1 a ∧ ty σ H1 fun y H2 => tx σ H2 fun z H3 => ∃ o, DGet H3 a y o ∧ Q (o.getD z) H3
/-- d.pop(k): there; d.pop(k, x): there or not -/
def tDPop1 (td ty : TE) : TE := fun σ H Q => td σ H fun x H1 => ∃ a, x = .ref a ∧ IsD H1 a ∧ ty σ H1 fun y H2 => ∃ kvs k v, H2 a = some (.dK kvs) ∧ y = kV k ∧ valV kvs k = some v ∧ Q v (upd H2 a (.dK (dropK kvs k)))
def tDPop2 (td ty tx : TE) : TE := fun σ H Q => td σ H fun x H1 => ∃ a, x = .ref a ∧ IsD H1 a ∧ ty σ H1 fun y H2 => tx σ H2 fun z H3 => ∃ kvs k, H3 a = some (.dK kvs) ∧ y = kV k ∧
  (∀ v, valV kvs k = some v → Q v (upd H3 a (.dK (dropK kvs k)))) ∧ (valV kvs k = none → Q z H3)
section
variable {X : Cx} {o e f : Expr} {apos cpos : Pos} {td ty tx : TE}
end

/-! ### dict(d): a copy -/
section
variable {X : Cx} {pins : List (Addr × Obj)} {σ : St} {H : Hp} {s : Shared} {a : Addr} {kvs : List (Key × V)} {A : Around} {E : Value → Shared → Prop}
end

section
variable {X : Cx} {pins : List (Addr × Obj)} {σ : St} {H : Hp} {s : Shared} {a : Addr} {y : V} {u : Value} {A : Around} {E : Value → Shared → Prop}
end
end L2

namespace L2
open PySem PySem.Spec PyProof.Rows

section
variable {prog : Program} {w : World} {A : Around} {E : Value → Shared → Prop}
end

section
variable {X : Cx}
end
end L2

namespace L2
open PySem PySem.Spec PyProof.Rows

section
variable {X : Cx} {pins : List (Addr × Obj)} {σ : St} {H : Hp} {s : Shared} {h' : Heap}
/-! ### locking a thing while a statement runs -/
end
/-- the statement runs while the thing at d is locked (read, not written); d and what stands there are the reading's choice -/
def tLock (t : TS) : TS := fun D σ H => ∃ d u, H d = some u ∧ Mut (some u) ∧ ∀ od, t ⟨fun σ' H' => H' d = some (.frz od u) ∧ D.nx σ' (upd H' d u), fun v H' => H' d = some (.frz od u) ∧ D.rt v (upd H' d u), fun σ' H' => H' d = some (.frz od u) ∧ D.bk σ' (upd H' d u), fun σ' H' => H' d = some (.frz od u) ∧ D.ct σ' (upd H' d u)⟩ σ (upd H d (.frz od u))
def tLockE (t : TE) : TE := fun σ H Q => ∃ d u, H d = some u ∧ Mut (some u) ∧ ∀ od, t σ (upd H d (.frz od u)) fun v H' => H' d = some (.frz od u) ∧ Q v (upd H' d u)
section
variable {X : Cx}
/-! ### one iterator just laid -/
end

/-! ### range with a step -/
/-- lo, lo + c, .. (n of them) -/
def Itc (lo c : Int) (n : Nat) : It := ⟨fun i _ => i < n, fun i H x H' => H' = H ∧ x = .int (lo + (i : Nat) * c), fun i _ => n ≤ i⟩
/-- range(i, j, c): small bounds, n items -/
def RgC (i j c : Int) (n : Nat) : Prop := c ≠ 0 ∧ c.natAbs < 1073741824 ∧ Builtin.Range.small i j c = true ∧ Builtin.Range.rangeSize i j c = n
def iRng3 (ta : TA) : TI := fun σ H R => ta σ H fun vs H1 => ∃ (i j c : Int) (n : Nat), vs = [.int i, .int j, .int c] ∧ RgC i j c n ∧ R (Itc i c n) H1
section
variable {X : Cx} {tg : Expr}
end
/-! ### reversed(list) -/
/-- the list at a (n items at the start, which the loop leaves there), from its end -/
def Itv (K : PySem.W.Frag) (a : Addr) (n : Nat) : It :=
  ⟨fun i H => i < n ∧ ∃ (xs : List V) (x : V), SqL K H a xs ∧ xs[n - 1 - i]? = some x, fun i H x H' => H' = H ∧ ∀ xs, SqL K H a xs → xs[n - 1 - i]? = some x, fun i _ => n ≤ i⟩
def iRev (K : PySem.W.Frag) (ta : TA) : TI := fun σ H R => ta σ H fun vs H1 => ∃ (a : Addr) (xs : List V), vs = [.ref a] ∧ SqL K H1 a xs ∧ R (Itv K a xs.length) H1
section
variable {X : Cx} {tg : Expr}
end

/-! ### a str -/
def Its (x : Str) : It := ⟨fun i _ => i < x.cps.size, fun i H v H' => H' = H ∧ ∃ c, x.cps[i]? = some c ∧ v = .str ⟨#[c]⟩, fun i _ => x.cps.size ≤ i⟩
def iStr (te : TE) : TI := fun σ H R => te σ H fun v H1 => ∃ x, v = .str x ∧ R (Its x) H1
/-! ### a dict's keys: any dict's entries -/
section
variable {prog : Program} {w : World} {A : Around} {E : Value → Shared → Prop} {s : Shared}
end

/-! ### a locked dict -/
section
variable {X : Cx} {pins : List (Addr × Obj)} {σ : St} {H : Hp} {s : Shared} {d : Addr} {o : Obj}
end

/-- the keys of the locked dict at d, in their order -/
def Itk (d : Addr) (o : Obj) (kvs : List (Key × V)) : It :=
  ⟨fun i H => H d = some (.frz o (.dK kvs)) ∧ i < kvs.length, fun i H x H' => H' = H ∧ ∃ k v, kvs[i]? = some (k, v) ∧ x = kV k, fun i H => H d = some (.frz o (.dK kvs)) ∧ kvs.length ≤ i⟩
/-- .. of tuple keys: the key's own tuple -/
def Itkt (d : Addr) (o : Obj) (kvs : List (List Key × V)) : It :=
  ⟨fun i H => H d = some (.frz o (.dT kvs)) ∧ i < kvs.length, fun i H x H' => H' = H ∧ ∃ (k : List Key) (v : V) (q : Addr), kvs[i]? = some (k, v) ∧ x = .ref q ∧ H q = some (.tup (k.map kV)), fun i H => H d = some (.frz o (.dT kvs)) ∧ kvs.length ≤ i⟩
/-- the values -/
def Itd (d : Addr) (o : Obj) (kvs : List (Key × V)) : It :=
  ⟨fun i H => H d = some (.frz o (.dK kvs)) ∧ i < kvs.length, fun i H x H' => H' = H ∧ ∃ k, kvs[i]? = some (k, x), fun i H => H d = some (.frz o (.dK kvs)) ∧ kvs.length ≤ i⟩
/-- the pairs, each a new tuple -/
def Iti (d : Addr) (o : Obj) (kvs : List (Key × V)) : It :=
  ⟨fun i H => H d = some (.frz o (.dK kvs)) ∧ i < kvs.length, fun i H x H' => ∃ T k v, kvs[i]? = some (k, v) ∧ x = .ref T ∧ H T = none ∧ H' = upd H T (.tup [kV k, v]), fun i H => H d = some (.frz o (.dK kvs)) ∧ kvs.length ≤ i⟩
section
variable {P : Program} {w : World} {K : PySem.W.Frag} {tg : Expr} {d : Addr} {o : Obj} {es : Array DictEntry} {ep : Nat}
end

/-! ### for k in d, d.keys(), d.values(), d.items() -/
/-- the dict is locked (tLock, or by the caller) -/
def iKeys (td : TE) : TI := fun σ H R => td σ H fun x H1 => ∃ d o, x = .ref d ∧ ((∃ kvs, H1 d = some (.frz o (.dK kvs)) ∧ R (Itk d o kvs) H1) ∨ ∃ kvs, H1 d = some (.frz o (.dT kvs)) ∧ R (Itkt d o kvs) H1)
def iVals (td : TE) : TI := fun σ H R => td σ H fun x H1 => ∃ d o kvs, x = .ref d ∧ H1 d = some (.frz o (.dK kvs)) ∧ R (Itd d o kvs) H1
def iItems (td : TE) : TI := fun σ H R => td σ H fun x H1 => ∃ d o kvs, x = .ref d ∧ H1 d = some (.frz o (.dK kvs)) ∧ R (Iti d o kvs) H1
def iKeysM (td : TE) : TI := fun σ H R => td σ H fun x H1 => ∃ d o kvs, x = .ref d ∧ H1 d = some (.frz o (.dK kvs)) ∧ R (Itk d o kvs) H1
section
variable {X : Cx} {tg e : Expr} {td : TE} {apos cpos : Pos}
end

/-! ### enumerate(list) -/
/-- the list at a as it stands at each turn, each item in a new pair -/
def Ite (K : PySem.W.Frag) (a : Addr) : It :=
  ⟨fun i H => ∃ (xs : List V) (x : V), SqL K H a xs ∧ xs[i]? = some x, fun i H v H' => ∃ T x, v = .ref T ∧ H T = none ∧ H' = upd H T (.tup [.int (i : Nat), x]) ∧ ∀ xs, SqL K H a xs → xs[i]? = some x, fun i H => ∃ xs : List V, SqL K H a xs ∧ xs.length ≤ i⟩
def iEnum (K : PySem.W.Frag) (ta : TA) : TI := fun σ H R => ta σ H fun vs H1 => ∃ a xs, vs = [.ref a] ∧ SqL K H1 a xs ∧ R (Ite K a) H1
/-! ### zip(list, list) -/
/-- the lists at a and b as they stand at each turn, the items in new pairs -/
def Itz (K : PySem.W.Frag) (a b : Addr) : It :=
  ⟨fun i H => ∃ (xs ys : List V) (x y : V), SqL K H a xs ∧ SqL K H b ys ∧ xs[i]? = some x ∧ ys[i]? = some y,
    fun i H v H' => ∃ T x y, v = .ref T ∧ H T = none ∧ H' = upd H T (.tup [x, y]) ∧ (∀ xs, SqL K H a xs → xs[i]? = some x) ∧ ∀ ys, SqL K H b ys → ys[i]? = some y,
    fun i H => ∃ xs ys : List V, SqL K H a xs ∧ SqL K H b ys ∧ (xs.length ≤ i ∨ ys.length ≤ i)⟩
def iZip (K : PySem.W.Frag) (ta : TA) : TI := fun σ H R => ta σ H fun vs H1 => ∃ a b xs ys, vs = [.ref a, .ref b] ∧ SqL K H1 a xs ∧ SqL K H1 b ys ∧ R (Itz K a b) H1
end L2

section 
namespace Bits
open PySem PyProof.Rows

end Bits
end 

section 
namespace TL
open PySem PySem.Builtin PySem.Builtin.Str PySem.StrLaws

abbrev tl (x : Str) : List Nat := x.cps.toList
/-! ### the list functions -/
/-- S stands at the head of l -/
def pre (S l : List Nat) : Bool := l.take S.length == S
/-- l cut at each S from the left; k signs are still to be passed over -/
def spl (S : List Nat) : Nat → List Nat → List Nat → List (List Nat)
  | _, acc, [] => [acc]
  | 0, acc, c :: r => if pre S (c :: r) = true then acc :: spl S (S.length - 1) [] r else spl S 0 (acc ++ [c]) r
  | k + 1, acc, _ :: r => spl S k acc r
/-- what stands before the first S, and behind it -/
def par (S : List Nat) : List Nat → List Nat → Option (List Nat × List Nat)
  | _, [] => none
  | acc, c :: r => if pre S (c :: r) = true then some (acc, (c :: r).drop S.length) else par S (acc ++ [c]) r

/-! ### the model's split and partition are these -/
/-! ### computing spl and par -/
/-- joined lists -/
def joinL (S : List Nat) : List (List Nat) → List Nat
  | [] => []
  | [p] => p
  | p :: q :: r => p ++ (S ++ joinL S (q :: r))
/-! ### digits -/
/-- the signs of a number -/
def numL (n : Nat) : List Nat := (Nat.toDigits 10 n).map Char.toNat
/-! ### words: x.split() -/
def wstep (st : List (List Nat) × List Nat) (c : Nat) : List (List Nat) × List Nat :=
  if Unicode.isSpace c = true then (if st.2 = [] then st else (st.1 ++ [st.2], [])) else (st.1, st.2 ++ [c])
def wfin (st : List (List Nat) × List Nat) : List (List Nat) := if st.2 = [] then st.1 else st.1 ++ [st.2]
end TL
end 

namespace L2
open PySem PySem.Spec PyProof.Rows

/-- a new list of texts, tracked -/
def rNewStrs (ys : List Str) : Hp → VK → Prop := fun H Q => ∀ p, H p = none → Q (.ref p) (upd H p (.lst (ys.map V.str)))

section
variable {X : Cx} {pins : List (Addr × Obj)} {σ : St} {H : Hp} {s : Shared} {Q : VK}
end

section
variable {X : Cx}

/-! ### of a text alone -/
/-! ### of a text and a text -/
end

section
variable {X : Cx} {o e : Expr} {to te : TE}
def tM0 (r : V → List V → Hp → VK → Prop) (to : TE) : TE := fun σ H Q => to σ H fun x H1 => (∃ a, x = .str a) ∧ r x [] H1 Q
def tM1 (r : V → List V → Hp → VK → Prop) (to te : TE) : TE := fun σ H Q => to σ H fun x H1 => (∃ a, x = .str a) ∧ te σ H1 fun y H2 => r x [y] H2 Q
end
end L2

namespace L2
open PySem PySem.Spec PyProof.Rows

section
variable {X : Cx}
end

/-! ### slices of a text -/
/-- a part, clipped, as the text's slice reckons it -/
def clipS (n d : Nat) : Option Int → Int
  | none => (d : Int)
  | some i => max 0 (min (if i < 0 then i + (n : Int) else i) (n : Int))
/-- z[lo:hi] -/
def cutS (z : Str) (lo hi : Option Int) : Str :=
  ⟨((z.cps.toList.drop (HT.sIx z.length 0 lo)).take (HT.sIx z.length z.length hi - HT.sIx z.length 0 lo)).toArray⟩
def rSlS : V → Option Int → Option Int → Hp → VK → Prop := fun x lo hi H Q => ∃ z, x = .str z ∧ z.length ≤ sizeLine ∧ Q (.str (cutS z lo hi)) H
end L2

namespace Att
open PySem PySem.W PySem.Calls PyProof.Rows

/-! ### the script -/
/-! ### the attachment: holds_open's last premise (the goal 'hc' behind k_head) from a wpAny of the law's body -/
/-! ### rules over ANY heap (no ledger) from facts about the written part K: the library's own take a ledger (News) for what they write -/
section
variable {prog : Program} {w : World} {A : Around} {E : Value → Shared → Prop} {s : Shared} {K : Frag}

/-! the whole heap as the ledger: makes every rule that writes through a ledger a rule over any heap -/
def noObjs (h : Heap) : Heap := { h with objs := #[] }
def ledger (h : Heap) (L d : Addr) : List (Addr × Obj) := (List.range h.objs.size).filterMap fun a => if a = L ∨ a = d then none else (h.get? a).map fun o => (a, o)
end
end Att

namespace L2
open PySem PySem.Spec PyProof.Rows

theorem vals_ints : ∀ {vs : List Value} {ns : List Int}, IntsAre vs ns → Vals (ns.map V.int) vs
  | _, _, .nil => .nil
  | _, _, .cons n t h => .cons ⟨t, rfl⟩ (vals_ints h)

/-- nothing is tracked but the script, known to the object (or it is an object of the module) -/
def Only (H : Hp) : Prop := ∀ b, H b = none ∨ ∃ o xs, H b = some (.frz o (.lst xs))

end L2

namespace L2
open PySem PySem.Spec PyProof.Rows

abbrev KOf {K : PySem.W.Frag} {h : Heap} (_ : K.In h) : PySem.W.Frag := K

end L2

/-! SHORT WORDS over the layer: a def of the text, its body, what a loop and a test want. -/
namespace L2
open PySem PySem.Spec PyProof.Rows

/-! ### the text by places -/
/-- the j-th statement of a class's body -/
def inClass (s : Stmt) (j : Nat) : Stmt := match s with
  | .ClassDef _ _ _ body _ _ _ _ _ _ _ => body.getD j (.Pass ⟨0, 0, 0, 0⟩)
  | _ => .Pass ⟨0, 0, 0, 0⟩
def defArgs (s : Stmt) : Arguments := match s with
  | .FunctionDef _ a _ _ _ _ _ _ _ _ => a
  | _ => { posonlyargs := [], args := [], vararg := none, kwonlyargs := [], kw_defaults := [], kwarg := none, defaults := [] }
def defBody (s : Stmt) : List Stmt := match s with
  | .FunctionDef _ _ b _ _ _ _ _ _ _ => b
  | _ => []
def defScope (s : Stmt) : Scope := match s with
  | .FunctionDef _ _ _ _ _ _ sc _ _ _ => sc
  | _ => { kind := .function, names := [], isGenerator := false, isCoroutine := false }

/-! ### no exception leaves a def -/
abbrev CX0 : CXT := fun _ _ _ _ _ _ => False
abbrev E0 : XK := fun _ _ _ => False
theorem pass0 {X : Cx} : Passes CX0 X E0 := fun _ _ _ _ _ _ _ h => h.elim

/-! ### a def (or method) of the text as it stands behind the top -/
structure Fun (K : PySem.W.Frag) (x qual : Str) (st : Stmt) (f : Addr) (fd : FuncData) : Prop where
  ex : ∃ (oc : Value) (od : Option Addr) (kV doc pm : Value) (an : Option Addr) (cdv ct : Value) (osl : Array (Option Value)),
    fd = PySem.W.fnOf x qual (defArgs st) (defBody st) (defScope st) .none kV doc pm an cdv ct ∧ K.lookup f = some ⟨oc, od, .func fd, osl⟩ ∧ PySem.W.codeIn K cdv qual = true
  kp : PySem.W.keepIn K (.ref f) = true
section
variable {P : Program} {w : World} {K : PySem.W.Frag} {mg : Str → Option Value} {base : Heap}
/-- THE RULE for a def: its body as a term of rules, and the reading of that term -/
theorem Fun.ok {x qual : Str} {st : Stmt} {f : Addr} {fd : FuncData} {N ps : List Str} {k : Nat} {sp : Sp} (F : Fun K x qual st f fd) (S : FnScope N ps (defScope st)) (len : ∀ vs H Q E, sp vs H Q E → vs.length = ps.length)
    (hbody : ∀ (cdv : Value) (A : Around) (outer : List Env) (s : Shared) (H : Hp) (vs : List V) (Q : VK) (E : XK), Room k (A.deeper (envOfC qual (defScope st) s.heap.objs.size f cdv)) → sp vs H Q E →
      ∃ t, PSs (cxOf CX0 P w K mg base N qual (defScope st) f cdv A outer s H E).nox (defBody st) t ∧ t { nx := fun _ H' => Q .non H', rt := Q } (start N vs) H) : FnOk P w K mg base CX0 (k + 1) f fd ps sp := by
  obtain ⟨oc, od, kV, doc, pm, an, cdv, ct, osl, rfl, lk, hcd⟩ := F.ex
  refine fn_of lk hcd S len fun A outer s H vs Q E hr hsp => ?_
  obtain ⟨t, h, q⟩ := hbody cdv A outer s H vs Q E hr hsp
  exact ⟨t, h.nox, q⟩
/-- how its arguments bind (no defaults): h is «fun _ _ _ _ _ _ us hl => match us, hl with | [_, _], _ => rfl», one _ a parameter -/
theorem Fun.binds {x qual : Str} {st : Stmt} {f : Addr} {fd : FuncData} {ps : List Str} (F : Fun K x qual st f fd)
    (h : ∀ (kV doc pm : Value) (an : Option Addr) (cdv ct : Value) (us : List Value), us.length = ps.length → bindArgs (PySem.W.fnOf x qual (defArgs st) (defBody st) (defScope st) .none kV doc pm an cdv ct) ⟨us, []⟩ = pure (ps.zip us)) : Binds K fd ps [] := by
  obtain ⟨oc, od, kV, doc, pm, an, cdv, ct, osl, rfl, lk, hcd⟩ := F.ex
  exact .all (h kV doc pm an cdv ct)
theorem fun_mk {x qual : Str} {st : Stmt} {f : Addr} {oc : Value} {od an : Option Addr} {osl : Array (Option Value)} {kV doc pm cdv ct : Value} (l : K.lookup f = some ⟨oc, od, .func (PySem.W.fnOf x qual (defArgs st) (defBody st) (defScope st) .none kV doc pm an cdv ct), osl⟩)
    (c : PySem.W.codeIn K cdv qual = true) (k : PySem.W.keepIn K (.ref f) = true) : Fun K x qual st f (PySem.W.fnOf x qual (defArgs st) (defBody st) (defScope st) .none kV doc pm an cdv ct) := ⟨⟨oc, od, kV, doc, pm, an, cdv, ct, osl, rfl, l, c⟩, k⟩
end
theorem small1000 {n : Nat} (h : n ≤ 1000) : n < sizeLine := Nat.lt_of_le_of_lt h (by decide)

/-! ### expressions in short: the name that stands in the i-th slot -/
section
variable {X : Cx}
theorem pv (i : Nat) {x : Str} {pos : Pos} (hN : X.N[i]? = some x := by rfl) (hv : Vis X.env.scope x := by first | exact Or.inl rfl | exact Or.inr (Or.inl rfl) | exact Or.inr (Or.inr rfl)) (hd : (x == ("__debug__" : Str)) = false := by decide)
    (hcd : (x == ("__classdict__" : Str)) = false := by decide) : PE X (.Name x pos) (tVar i) := pe_var hN hv hd hcd
end

/-! ### tests -/
theorem iteT {A B : Prop} (h : A) : if true = true then A else B := by
  rw [if_pos rfl]
  exact h
theorem ite2 {c A B : Prop} [Decidable c] (h1 : c → A) (h2 : ¬ c → B) : if c then A else B := by
  by_cases h : c
  · rw [if_pos h]
    exact h1 h
  · rw [if_neg h]
    exact h2 h
/-! ### heaps -/
/-- all that was tracked is as it was -/
def Same (H H' : Hp) : Prop := ∀ b o, H b = some o → H' b = some o
theorem Same.trans {H H1 H2 : Hp} (a : Same H H1) (b : Same H1 H2) : Same H H2 := fun c o h => b c o (a c o h)
theorem Same.free {H H' : Hp} (e : Same H H') {l : Addr} (h : H' l = Option.none) : H l = Option.none := by
  cases q : H l with
  | none => rfl
  | some o =>
    rw [e l o q] at h
    cases h
theorem Same.seq {K : PySem.W.Frag} {H H' : Hp} {a : Addr} {xs : List V} (e : Same H H') (h : SqL K H a xs) : SqL K H' a xs := by
  rcases h with (h | ⟨o, h⟩) | h
  · exact .inl (.inl (e _ _ h))
  · exact .inl (.inr ⟨o, e _ _ h⟩)
  · exact .inr h

/-! ### a dict's pairs: keys that differ -/
section
variable {κ : Type} [DecidableEq κ]
end
/-! ### lists -/
end L2

set_option linter.all false
namespace Gm
open Sa79

/-! ### bits -/
theorem xor_add_and (m : Nat) : ∀ n : Nat, (m ^^^ n) + 2 * (m &&& n) = m + n := by
  induction m using Nat.strongRecOn with
  | _ m ih =>
    intro n
    by_cases h0 : m = 0
    · subst h0
      simp
    · have ih' := ih (m / 2) (by omega) (n / 2)
      rw [← Nat.xor_div_two, ← Nat.and_div_two] at ih'
      have o1 := @Nat.xor_mod_two_eq_one m n
      have a1 := @Nat.and_mod_two_eq_one m n
      omega
/-- the points of m that t has not -/
def wo (m t : Nat) : Nat := m - (m &&& t)
theorem wo_xor (m t : Nat) : wo m t = m ^^^ (m &&& t) := by
  have h := xor_add_and m (m &&& t)
  have e : m &&& (m &&& t) = m &&& t := by rw [← Nat.and_assoc, Nat.and_self]
  rw [e] at h
  have : m &&& t ≤ m := Nat.and_le_left
  unfold wo
  omega
theorem tb_wo (m t i : Nat) : (wo m t).testBit i = (m.testBit i && !t.testBit i) := by
  rw [wo_xor, Nat.testBit_xor, Nat.testBit_and]
  cases m.testBit i <;> cases t.testBit i <;> rfl
theorem wo_le (m t : Nat) : wo m t ≤ m := Nat.sub_le _ _
theorem ext {a b : Nat} (h : ∀ i, a.testBit i = b.testBit i) : a = b := Nat.eq_of_testBit_eq h
theorem tb_pow (u i : Nat) : (2 ^ u).testBit i = decide (u = i) := Nat.testBit_two_pow
theorem tb_lt {m i : Nat} (h : m < 2 ^ 32) (b : m.testBit i = true) : i < 32 := by
  rcases Nat.lt_or_ge i 32 with q | q
  · exact q
  · rw [Nat.testBit_lt_two_pow (Nat.lt_of_lt_of_le h (Nat.pow_le_pow_right (by decide) q))] at b
    cases b
theorem tb_ltn {m n i : Nat} (h : m < 2 ^ n) (b : m.testBit i = true) : i < n := by
  rcases Nat.lt_or_ge i n with q | q
  · exact q
  · rw [Nat.testBit_lt_two_pow (Nat.lt_of_lt_of_le h (Nat.pow_le_pow_right (by decide) q))] at b
    cases b
theorem exists_tb {m : Nat} (h : m ≠ 0) : ∃ i, m.testBit i = true := by
  by_cases q : ∃ i, m.testBit i = true
  · exact q
  · exfalso
    refine h (ext fun i => ?_)
    rw [Nat.zero_testBit]
    cases e : m.testBit i with
    | false => rfl
    | true => exact absurd ⟨i, e⟩ q
theorem zero_of {m : Nat} (h : ∀ i, m.testBit i = false) : m = 0 := ext fun i => by rw [h i, Nat.zero_testBit]

/-! ### a mask's points -/
theorem mem_of {m k : Nat} : k ∈ ofMask m ↔ k < 32 ∧ m.testBit k = true := by
  unfold ofMask
  rw [List.mem_filter, List.mem_range]
theorem mem_ofB {m k : Nat} (h : m < 2 ^ 32) : k ∈ ofMask m ↔ m.testBit k = true := by
  rw [mem_of]
  exact ⟨fun q => q.2, fun q => ⟨tb_lt h q, q⟩⟩
theorem of_sorted (m : Nat) : (ofMask m).Pairwise (· < ·) := List.Pairwise.filter _ List.pairwise_lt_range
theorem nodup_of_lt {l : List Nat} (h : l.Pairwise (· < ·)) : l.Nodup := h.imp fun h => Nat.ne_of_lt h
theorem of_nodup (m : Nat) : (ofMask m).Nodup := nodup_of_lt (of_sorted m)
theorem of_length (m : Nat) : (ofMask m).length ≤ 32 := by
  have h := List.length_filter_le (fun k => m.testBit k) (List.range 32)
  rw [List.length_range] at h
  exact h
/-- two rising lists with the same members are one -/
theorem sorted_ext {a b : List Nat} (ha : a.Pairwise (· < ·)) (hb : b.Pairwise (· < ·)) (h : ∀ x, x ∈ a ↔ x ∈ b) : a = b := by
  refine List.Perm.eq_of_pairwise (le := (· < ·)) (fun x y _ _ h1 h2 => absurd h1 (Nat.lt_asymm h2)) ha hb ?_
  exact (List.perm_ext_iff_of_nodup (nodup_of_lt ha) (nodup_of_lt hb)).mpr h
theorem of_zero : ofMask 0 = [] := by decide
theorem of_nil {m : Nat} (h : m < 2 ^ 32) : ofMask m = [] ↔ m = 0 := by
  constructor
  · intro e
    refine zero_of fun i => ?_
    cases q : m.testBit i with
    | false => rfl
    | true =>
      have := (mem_ofB h).mpr q
      rw [e] at this
      cases this
  · rintro rfl
    exact of_zero
/-- the least point -/
def lp (m : Nat) : Nat := (ofMask m).headD 0
theorem of_cons {m : Nat} (h : m < 2 ^ 32) (h0 : m ≠ 0) : ofMask m = lp m :: ofMask (wo m (2 ^ lp m)) := by
  cases e : ofMask m with
  | nil => exact absurd ((of_nil h).mp e) h0
  | cons x r =>
    have hx : lp m = x := by unfold lp; rw [e]; rfl
    rw [hx]
    congr 1
    have hs := of_sorted m
    rw [e] at hs
    obtain ⟨h1, h2⟩ := List.pairwise_cons.mp hs
    refine sorted_ext h2 (of_sorted _) fun y => ?_
    have hm : y ∈ ofMask m ↔ y = x ∨ y ∈ r := by rw [e]; exact List.mem_cons
    rw [mem_of, tb_wo, tb_pow]
    rw [mem_of] at hm
    constructor
    · intro hy
      have q := hm.mpr (.inr hy)
      have : x ≠ y := Nat.ne_of_lt (h1 y hy)
      rw [q.2, decide_eq_false this]
      exact ⟨q.1, rfl⟩
    · rintro ⟨q1, q2⟩
      rw [Bool.and_eq_true] at q2
      obtain ⟨q2, q3⟩ := q2
      have ne : x ≠ y := by
        intro z
        rw [decide_eq_true z] at q3
        cases q3
      rcases hm.mp ⟨q1, q2⟩ with z | z
      · exact absurd z.symm ne
      · exact z
theorem lp_mem {m : Nat} (h : m < 2 ^ 32) (h0 : m ≠ 0) : m.testBit (lp m) = true := by
  have : lp m ∈ ofMask m := by rw [of_cons h h0]; exact List.mem_cons_self
  exact (mem_of.mp this).2
theorem lp_le {m i : Nat} (h : m < 2 ^ 32) (b : m.testBit i = true) : lp m ≤ i := by
  have h0 : m ≠ 0 := by rintro rfl; rw [Nat.zero_testBit] at b; cases b
  have hs := of_sorted m
  have hi := (mem_ofB h).mpr b
  rw [of_cons h h0] at hs hi
  rcases List.mem_cons.mp hi with z | z
  · exact Nat.le_of_eq z.symm
  · exact Nat.le_of_lt ((List.pairwise_cons.mp hs).1 i z)
theorem lp_lt {m : Nat} (h : m < 2 ^ 32) (h0 : m ≠ 0) : lp m < 32 := tb_lt h (lp_mem h h0)
theorem wo_lt {m t n : Nat} (h : m < 2 ^ n) : wo m t < 2 ^ n := Nat.lt_of_le_of_lt (wo_le _ _) h
theorem wo_lp_lt {m : Nat} (h : m < 2 ^ 32) (h0 : m ≠ 0) : wo m (2 ^ lp m) < m := by
  have hb := lp_mem h h0
  have : m &&& 2 ^ lp m ≠ 0 := by
    intro z
    have : (m &&& 2 ^ lp m).testBit (lp m) = true := by rw [Nat.testBit_and, hb, tb_pow, decide_eq_true rfl]; rfl
    rw [z, Nat.zero_testBit] at this
    cases this
  unfold wo
  omega
/-- m & -m is the least point's bit -/
theorem low_bit {m : Nat} (h : m < 2 ^ 32) (h0 : m ≠ 0) : m - (m &&& (m - 1)) = 2 ^ lp m := by
  show wo m (m - 1) = 2 ^ lp m
  have hl := lp_mem h h0
  have hmin : ∀ i, i < lp m → m.testBit i = false := fun i hi => by
    cases q : m.testBit i with
    | false => rfl
    | true => exact absurd (lp_le h q) (Nat.not_le.mpr hi)
  -- m = 2^(lp+1) * q + 2^lp
  have hmod : m % 2 ^ (lp m + 1) = 2 ^ lp m := by
    refine ext fun i => ?_
    rw [Nat.testBit_mod_two_pow, tb_pow]
    by_cases c : i < lp m + 1
    · rw [decide_eq_true c, Bool.true_and]
      by_cases c2 : lp m = i
      · rw [← c2, hl, decide_eq_true rfl]
      · rw [hmin i (by omega), decide_eq_false c2]
    · rw [decide_eq_false c, Bool.false_and, decide_eq_false (by omega)]
  have hd : m = 2 ^ (lp m + 1) * (m / 2 ^ (lp m + 1)) + 2 ^ lp m := by
    have := Nat.div_add_mod m (2 ^ (lp m + 1))
    rw [hmod] at this
    exact this.symm
  have hp : 0 < 2 ^ lp m := Nat.two_pow_pos _
  have hm1 : m - 1 = 2 ^ (lp m + 1) * (m / 2 ^ (lp m + 1)) + (2 ^ lp m - 1) := by omega
  refine ext fun i => ?_
  rw [tb_wo, tb_pow, hm1]
  have hlt : 2 ^ lp m - 1 < 2 ^ (lp m + 1) := by rw [Nat.pow_succ]; omega
  rw [Nat.testBit_two_pow_mul_add _ hlt, Nat.testBit_two_pow_sub_one]
  by_cases c : i < lp m + 1
  · rw [if_pos c]
    by_cases c2 : lp m = i
    · subst c2
      rw [hl, decide_eq_true rfl, decide_eq_false (Nat.lt_irrefl _)]
      rfl
    · rw [hmin i (by omega), decide_eq_false c2]
      rfl
  · rw [if_neg c, Nat.testBit_div_two_pow]
    have : i - (lp m + 1) + (lp m + 1) = i := by omega
    rw [decide_eq_false (show ¬ lp m = i by omega)]
    first
      | (rw [this]; cases m.testBit i <;> rfl)
      | (rw [Nat.add_comm, this]; cases m.testBit i <;> rfl)
theorem of_and (a b : Nat) : ofMask (a &&& b) = (ofMask a).filter fun k => b.testBit k := by
  unfold ofMask
  rw [List.filter_filter]
  congr 1
  funext k
  rw [Nat.testBit_and, Bool.and_comm]
theorem and_lt {a b n : Nat} (h : b < 2 ^ n) : a &&& b < 2 ^ n := Nat.and_lt_two_pow a h
theorem and_lt' {a b n : Nat} (h : a < 2 ^ n) : a &&& b < 2 ^ n := by rw [Nat.and_comm]; exact and_lt h
theorem pow_lt32 {u : Nat} (h : u < 32) : 2 ^ u < 2 ^ 32 := Nat.pow_lt_pow_right (by decide) h
end Gm

set_option linter.all false
namespace Gm
open Sa79

/-! ### a graph -/
structure Gr (g : G) : Prop where
  len1 : 1 ≤ g.length
  len32 : g.length ≤ 32
  small : ∀ u, g.getD u 0 < 2 ^ g.length
  irr : ∀ u, joined g u u = false
  sym : ∀ u v, joined g u v = joined g v u
theorem getD_out {g : G} {u : Nat} (h : g.length ≤ u) : g.getD u 0 = 0 := by
  rw [List.getD_eq_getElem?_getD, List.getElem?_eq_none h]
  rfl
theorem Gr.of {g : G} (h : isGraph g = true) : Gr g := by
  unfold isGraph at h
  rw [Bool.and_eq_true, Bool.and_eq_true, List.all_eq_true] at h
  obtain ⟨h1, h2, h3⟩ := h
  have h1 := of_decide_eq_true h1
  have h2 := of_decide_eq_true h2
  have hu : ∀ u, u < g.length → g.getD u 0 < 2 ^ g.length ∧ joined g u u = false ∧ ∀ v, v < g.length → joined g u v = joined g v u := by
    intro u hu
    have q := h3 u (List.mem_range.mpr hu)
    rw [Bool.and_eq_true, Bool.and_eq_true, List.all_eq_true] at q
    obtain ⟨q1, q2, q3⟩ := q
    refine ⟨of_decide_eq_true q1, by simpa using q2, fun v hv => ?_⟩
    have := q3 v (List.mem_range.mpr hv)
    exact eq_of_beq this
  have small : ∀ u, g.getD u 0 < 2 ^ g.length := by
    intro u
    rcases Nat.lt_or_ge u g.length with q | q
    · exact (hu u q).1
    · rw [getD_out q]
      exact Nat.two_pow_pos _
  have out : ∀ u v, g.length ≤ v → joined g u v = false := by
    intro u v hv
    unfold joined
    exact Nat.testBit_lt_two_pow (Nat.lt_of_lt_of_le (small u) (Nat.pow_le_pow_right (by decide) hv))
  have out' : ∀ u v, g.length ≤ u → joined g u v = false := by
    intro u v hv
    unfold joined
    rw [getD_out hv, Nat.zero_testBit]
  refine ⟨h1, h2, small, fun u => ?_, fun u v => ?_⟩
  · rcases Nat.lt_or_ge u g.length with q | q
    · exact (hu u q).2.1
    · exact out u u q
  · rcases Nat.lt_or_ge u g.length with q | q
    · rcases Nat.lt_or_ge v g.length with r | r
      · exact (hu u q).2.2 v r
      · rw [out u v r, out' v u r]
    · rw [out' u v q, out v u q]
section
variable {g : G} (h : Gr g)
include h
theorem Gr.lt {u v : Nat} (j : joined g u v = true) : v < g.length := tb_ltn (h.small u) j
theorem Gr.lt' {u v : Nat} (j : joined g u v = true) : u < g.length := by rw [h.sym] at j; exact h.lt j
theorem Gr.ne {u v : Nat} (j : joined g u v = true) : u ≠ v := by
  rintro rfl
  rw [h.irr] at j
  cases j
theorem Gr.small32 (u : Nat) : g.getD u 0 < 2 ^ 32 := Nat.lt_of_lt_of_le (h.small u) (Nat.pow_le_pow_right (by decide) h.len32)
theorem Gr.pow32 : 2 ^ g.length ≤ 2 ^ 32 := Nat.pow_le_pow_right (by decide) h.len32
theorem Gr.all32 : 2 ^ g.length - 1 < 2 ^ 32 := by have := h.pow32; have := Nat.two_pow_pos g.length; omega
theorem Gr.points : Sa79.points g = ofMask (2 ^ g.length - 1) := by
  refine sorted_ext List.pairwise_lt_range (of_sorted _) fun x => ?_
  rw [mem_of, Nat.testBit_two_pow_sub_one, decide_eq_true_eq]
  unfold Sa79.points
  rw [List.mem_range]
  have := h.len32
  omega
end
theorem joined_tb (g : G) (u v : Nat) : joined g u v = (g.getD u 0).testBit v := rfl

/-! ### a clique, by masks -/
theorem clique_iff {g : G} {l : List Nat} : isClique g l = true ↔ ∀ u ∈ l, ∀ v ∈ l, u ≠ v → joined g u v = true := by
  unfold isClique
  rw [List.all_eq_true]
  constructor
  · intro h u hu v hv ne
    have := h u hu
    rw [List.all_eq_true] at this
    have := this v hv
    rw [Bool.or_eq_true] at this
    rcases this with z | z
    · exact absurd (eq_of_beq z) ne
    · exact z
  · intro h u hu
    rw [List.all_eq_true]
    intro v hv
    rw [Bool.or_eq_true]
    by_cases c : u = v
    · exact .inl (by rw [c]; exact beq_self_eq_true v)
    · exact .inr (h u hu v hv c)
/-- without(mask, g[u]) == 1 << u for a point u of the mask -/
theorem only_iff {g : G} (h : Gr g) {m u : Nat} (hm : m < 2 ^ 32) (hu : u ∈ ofMask m) : wo m (g.getD u 0) = 2 ^ u ↔ ∀ v ∈ ofMask m, u ≠ v → joined g u v = true := by
  constructor
  · intro e v hv ne
    have b : (wo m (g.getD u 0)).testBit v = false := by rw [e, tb_pow, decide_eq_false ne]
    rw [tb_wo, (mem_of.mp hv).2, Bool.true_and] at b
    unfold joined
    simpa using b
  · intro e
    refine ext fun i => ?_
    rw [tb_wo, tb_pow]
    by_cases c : u = i
    · subst c
      rw [(mem_of.mp hu).2, decide_eq_true rfl]
      have := h.irr u
      unfold joined at this
      rw [this]; rfl
    · rw [decide_eq_false c]
      cases q : m.testBit i with
      | false => rfl
      | true =>
        have := e i ((mem_ofB hm).mpr q) c
        unfold joined at this
        rw [this]; rfl
theorem clique_mask {g : G} (h : Gr g) {m : Nat} (hm : m < 2 ^ 32) : isClique g (ofMask m) = (ofMask m).all fun u => decide (wo m (g.getD u 0) = 2 ^ u) := by
  rw [Bool.eq_iff_iff, clique_iff, List.all_eq_true]
  constructor
  · intro q u hu
    exact decide_eq_true ((only_iff h hm hu).mpr fun v hv ne => q u hu v hv ne)
  · intro q u hu v hv ne
    exact (only_iff h hm hu).mp (of_decide_eq_true (q u hu)) v hv ne
theorem simple_mask {g : G} (u left : Nat) : simple g (ofMask left) u = isClique g (ofMask (g.getD u 0 &&& left)) := by
  unfold simple
  rw [Nat.and_comm, of_and]
  rfl

/-! ### taken away one by one -/
/-- those that can go -/
def canGo (g : G) (left : Nat) : List Nat := (ofMask left).filter fun u => isClique g (ofMask (g.getD u 0 &&& left))
theorem canGo_find (g : G) (left : Nat) : (ofMask left).find? (simple g (ofMask left)) = (canGo g left).head? := by
  have : simple g (ofMask left) = fun u => isClique g (ofMask (g.getD u 0 &&& left)) := by funext u; exact simple_mask u left
  rw [this]
  unfold canGo
  exact (List.head?_filter).symm
theorem of_without {left v : Nat} : (ofMask left).filter (fun u => u != v) = ofMask (wo left (2 ^ v)) := by
  unfold ofMask
  rw [List.filter_filter]
  congr 1
  funext k
  rw [tb_wo, tb_pow, Bool.and_comm]
  by_cases c : k = v
  · subst c; simp
  · rw [decide_eq_false (fun z => c z.symm)]
    simp [c]
theorem length_without {left v : Nat} (hv : v ∈ ofMask left) : (ofMask left).length = (ofMask (wo left (2 ^ v))).length + 1 := by
  rw [← of_without]
  have nd := of_nodup left
  generalize ofMask left = l at *
  induction l with
  | nil => cases hv
  | cons a r ih =>
    obtain ⟨n1, n2⟩ := List.nodup_cons.mp nd
    rcases List.mem_cons.mp hv with z | z
    · subst z
      have e : (v :: r).filter (fun u => u != v) = r := by
        rw [List.filter_cons_of_neg (by simp)]
        refine List.filter_eq_self.mpr fun x hx => ?_
        have : x ≠ v := by rintro rfl; exact n1 hx
        simp [this]
      rw [e]
      rfl
    · have ne : a ≠ v := by rintro rfl; exact n1 z
      rw [List.filter_cons_of_pos (by simp [ne])]
      have := ih z n2
      simp only [List.length_cons]
      omega
/-- between two turns: o has gone, left is left -/
structure Going (g : G) (o : List Nat) (left : Nat) : Prop where
  eq : order g = (takenFrom g ((ofMask left).length + 1) (ofMask left)).map (o ++ ·)
  len : o.length + (ofMask left).length = g.length
  lt : left < 2 ^ g.length
  pts : ∀ x ∈ o, x < g.length
theorem len_points (g : G) : (points g).length = g.length := by unfold points; exact List.length_range
theorem going_start {g : G} (h : Gr g) : Going g [] (2 ^ g.length - 1) := by
  refine ⟨?_, ?_, ?_, fun x hx => nomatch hx⟩
  · unfold order
    rw [← h.points, len_points]
    cases takenFrom g (g.length + 1) (points g) <;> simp
  · rw [← h.points, len_points]
    simp
  · have := Nat.two_pow_pos g.length
    omega
theorem taken_nil (g : G) (f : Nat) : takenFrom g f [] = some [] := by cases f <;> rfl
theorem taken_none {g : G} {f : Nat} {l : List Nat} (hl : l ≠ []) (q : l.find? (simple g l) = none) : takenFrom g (f + 1) l = none := by
  cases l with
  | nil => exact absurd rfl hl
  | cons a r => unfold takenFrom; rw [q]
theorem taken_some {g : G} {f v : Nat} {l : List Nat} (q : l.find? (simple g l) = some v) : takenFrom g (f + 1) l = (takenFrom g f (l.filter fun u => u != v)).map fun r => v :: r := by
  cases l with
  | nil => cases q
  | cons a r => 
    show (match (a :: r).find? (simple g (a :: r)) with
      | some v => (takenFrom g f ((a :: r).filter fun u => u != v)).map fun r => v :: r
      | none => none) = _
    rw [q]
theorem canGo_mem {g : G} {left v : Nat} {r : List Nat} (e : canGo g left = v :: r) : v ∈ ofMask left := by
  have : v ∈ canGo g left := by rw [e]; exact List.mem_cons_self
  exact (List.mem_filter.mp this).1
theorem going_step {g : G} (h : Gr g) {o : List Nat} {left v : Nat} {r : List Nat} (I : Going g o left) (e : canGo g left = v :: r) : Going g (o ++ [v]) (wo left (2 ^ v)) := by
  have hv := canGo_mem e
  have hf : (ofMask left).find? (simple g (ofMask left)) = some v := by rw [canGo_find, e]; rfl
  have hl := length_without hv
  have hvn : v < g.length := tb_ltn I.lt (mem_of.mp hv).2
  refine ⟨?_, ?_, wo_lt I.lt, fun x hx => ?_⟩
  · rw [I.eq, taken_some hf, of_without, hl]
    cases takenFrom g ((ofMask (wo left (2 ^ v))).length + 1) (ofMask (wo left (2 ^ v))) <;> simp
  · have := I.len
    rw [List.length_append, List.length_singleton]
    omega
  · rcases List.mem_append.mp hx with z | z
    · exact I.pts x z
    · rw [List.mem_singleton.mp z]; exact hvn
/-- what the walk is worth -/
def Gone (g : G) (o : List Nat) : Prop := (order g = some o ∧ o.length = g.length) ∨ (order g = none ∧ o.length < g.length)
theorem going_end {g : G} (h : Gr g) {o : List Nat} {left : Nat} (I : Going g o left) (e : canGo g left = []) : Gone g o := by
  have hlen := I.len
  by_cases c : ofMask left = []
  · refine .inl ⟨?_, ?_⟩
    · rw [I.eq, c, taken_nil]
      simp
    · rw [c] at hlen
      simpa using hlen
  · refine .inr ⟨?_, ?_⟩
    · have hf : (ofMask left).find? (simple g (ofMask left)) = none := by rw [canGo_find, e]; rfl
      rw [I.eq, taken_none c hf]
      rfl
    · have : (ofMask left).length ≠ 0 := fun z => c (List.eq_nil_of_length_eq_zero z)
      omega
end Gm

set_option linter.all false
namespace Gm
open Sa79

/-! ### holes: circles without a first point -/
def Hole (g : G) (k : Nat) (f : Nat → Nat) : Prop := 4 ≤ k ∧ ∀ i j, i < j → j < k → f i ≠ f j ∧ (joined g (f i) (f j) = true ↔ (i + 1 = j ∨ (i = 0 ∧ j + 1 = k)))
theorem hole_rot {g : G} (h : Gr g) {k : Nat} {f : Nat → Nat} (H : Hole g k f) : Hole g k (fun i => f (if i + 1 = k then 0 else i + 1)) := by
  obtain ⟨h4, H⟩ := H
  refine ⟨h4, fun i j hij hj => ?_⟩
  have hi : ¬ i + 1 = k := by omega
  dsimp only
  rw [if_neg hi]
  by_cases c : j + 1 = k
  · rw [if_pos c]
    obtain ⟨q1, q2⟩ := H 0 (i + 1) (by omega) (by omega)
    refine ⟨fun z => q1 z.symm, ?_⟩
    rw [h.sym, q2]
    constructor <;> intro _ <;> omega
  · rw [if_neg c]
    obtain ⟨q1, q2⟩ := H (i + 1) (j + 1) (by omega) (by omega)
    refine ⟨q1, ?_⟩
    rw [q2]
    constructor <;> intro _ <;> omega
theorem hole_rev {g : G} (h : Gr g) {k : Nat} {f : Nat → Nat} (H : Hole g k f) : Hole g k (fun i => f (if i = 0 then 0 else k - i)) := by
  obtain ⟨h4, H⟩ := H
  refine ⟨h4, fun i j hij hj => ?_⟩
  have hj0 : ¬ j = 0 := by omega
  dsimp only
  rw [if_neg hj0]
  by_cases c : i = 0
  · rw [if_pos c]
    obtain ⟨q1, q2⟩ := H 0 (k - j) (by omega) (by omega)
    refine ⟨q1, ?_⟩
    rw [q2]
    constructor <;> intro _ <;> omega
  · rw [if_neg c]
    obtain ⟨q1, q2⟩ := H (k - j) (k - i) (by omega) (by omega)
    refine ⟨fun z => q1 z.symm, ?_⟩
    rw [h.sym, q2]
    constructor <;> intro _ <;> omega
theorem hole_at {g : G} (h : Gr g) {k : Nat} {f : Nat → Nat} (H : Hole g k f) : ∀ r, r < k → ∃ f', Hole g k f' ∧ f' 0 = f r ∧ ∀ i, i < k → ∃ j, j < k ∧ f' i = f j
  | 0, _ => ⟨f, H, rfl, fun i hi => ⟨i, hi, rfl⟩⟩
  | r + 1, hr => by
    obtain ⟨f', H', e, m⟩ := hole_at h (hole_rot h H) r (by omega)
    refine ⟨f', H', ?_, fun i hi => ?_⟩
    · rw [e]
      simp only [show ¬ r + 1 = k by omega, if_false]
    · obtain ⟨j, hj, e⟩ := m i hi
      by_cases c : j + 1 = k
      · rw [if_pos c] at e; exact ⟨0, by omega, e⟩
      · rw [if_neg c] at e; exact ⟨j + 1, by omega, e⟩
theorem min_at (f : Nat → Nat) : ∀ k, 0 < k → ∃ r, r < k ∧ ∀ i, i < k → f r ≤ f i
  | 1, _ => ⟨0, by omega, fun i hi => by have : i = 0 := by omega
                                         rw [this]; exact Nat.le_refl _⟩
  | k + 2, _ => by
    obtain ⟨r, hr, m⟩ := min_at f (k + 1) (by omega)
    by_cases c : f r ≤ f (k + 1)
    · refine ⟨r, by omega, fun i hi => ?_⟩
      by_cases e : i = k + 1
      · rw [e]; exact c
      · exact m i (by omega)
    · refine ⟨k + 1, by omega, fun i hi => ?_⟩
      by_cases e : i = k + 1
      · rw [e]; exact Nat.le_refl _
      · have := m i (by omega)
        omega
/-- as a circle is written -/
structure Written (g : G) (c : List Nat) : Prop where
  hole : Hole g c.length (fun i => c.getD i 0)
  least : ∀ i, 0 < i → i < c.length → c.getD 0 0 < c.getD i 0
  dir : c.getD 1 0 < c.getD (c.length - 1) 0
theorem getD_map_range (f : Nat → Nat) (k i : Nat) (h : i < k) : ((List.range k).map f).getD i 0 = f i := by
  rw [List.getD_eq_getElem?_getD, List.getElem?_map, List.getElem?_range h]
  rfl
theorem hole_congr {g : G} {k : Nat} {f f' : Nat → Nat} (H : Hole g k f) (e : ∀ i, i < k → f' i = f i) : Hole g k f' := by
  refine ⟨H.1, fun i j hij hj => ?_⟩
  rw [e i (by omega), e j hj]
  exact H.2 i j hij hj
theorem written_of {g : G} (h : Gr g) {k : Nat} {f : Nat → Nat} (H : Hole g k f) : ∃ c, Written g c := by
  have h4 := H.1
  obtain ⟨r, hr, m⟩ := min_at f k (by omega)
  obtain ⟨f1, H1, e1, m1⟩ := hole_at h H r hr
  have min1 : ∀ i, i < k → f1 0 ≤ f1 i := fun i hi => by
    obtain ⟨j, hj, e⟩ := m1 i hi
    rw [e1, e]
    exact m j hj
  have mk : ∀ f2 : Nat → Nat, Hole g k f2 → (∀ i, i < k → f2 0 ≤ f2 i) → f2 1 < f2 (k - 1) → ∃ c, Written g c := by
    intro f2 H2 m2 d
    refine ⟨(List.range k).map f2, ?_⟩
    have hl : ((List.range k).map f2).length = k := by rw [List.length_map, List.length_range]
    refine ⟨?_, fun i h0 hi => ?_, ?_⟩
    · rw [hl]
      exact hole_congr H2 fun i hi => getD_map_range f2 k i hi
    · rw [hl] at hi
      rw [getD_map_range f2 k 0 (by omega), getD_map_range f2 k i hi]
      have := m2 i hi
      have := (H2.2 0 i h0 hi).1
      omega
    · rw [hl, getD_map_range f2 k 1 (by omega), getD_map_range f2 k (k - 1) (by omega)]
      exact d
  by_cases c : f1 1 < f1 (k - 1)
  · exact mk f1 H1 min1 c
  · refine mk _ (hole_rev h H1) (fun i hi => ?_) ?_
    · simp only [if_true]
      by_cases c0 : i = 0
      · simp only [c0, if_true]; exact Nat.le_refl _
      · simp only [c0, if_false]; exact min1 _ (by omega)
    · have n1 : ¬ k - 1 = 0 := by omega
      simp only [n1, if_false, show ¬ (1 : Nat) = 0 by omega]
      have := (H1.2 1 (k - 1) (by omega) (by omega)).1
      have e : k - (k - 1) = 1 := by omega
      rw [e]
      omega
theorem mod_succ {i k : Nat} (h : i < k) : (i + 1) % k = if i + 1 = k then 0 else i + 1 := by
  by_cases c : i + 1 = k
  · rw [if_pos c, c, Nat.mod_self]
  · rw [if_neg c, Nat.mod_eq_of_lt (by omega)]
theorem circle_iff {g : G} (h : Gr g) {c : List Nat} : isCircle g c = true ↔ Written g c := by
  unfold isCircle
  simp only [Bool.and_eq_true, decide_eq_true_eq, List.all_eq_true, List.mem_range, Bool.or_eq_true, beq_iff_eq, bne_iff_ne, ne_eq]
  constructor
  · rintro ⟨⟨h4, H⟩, h1, h2⟩
    refine ⟨⟨h4, fun i j hij hj => ?_⟩, fun i h0 hi => ?_, h2⟩
    · rcases H i (by omega) j hj with z | ⟨z1, z2⟩
      · omega
      · refine ⟨z1, ?_⟩
        dsimp only
        rw [z2, Bool.or_eq_true, beq_iff_eq, beq_iff_eq, mod_succ (show i < c.length by omega), mod_succ hj]
        constructor <;> intro _ <;> split at * <;> split at * <;> omega
    · refine h1 _ ?_
      have hd : i - 1 < (c.drop 1).length := by rw [List.length_drop]; omega
      have : (c.drop 1)[i - 1] = c.getD i 0 := by
        rw [List.getElem_drop, List.getD_eq_getElem?_getD, List.getElem?_eq_getElem hi]
        simp only [Option.getD_some]
        congr 1
        omega
      rw [← this]
      exact List.getElem_mem hd
  · intro W
    refine ⟨⟨W.hole.1, fun i hi j hj => ?_⟩, fun v hv => ?_, W.dir⟩
    · have key : ∀ i j, i < j → j < c.length → c.getD i 0 ≠ c.getD j 0 ∧ joined g (c.getD i 0) (c.getD j 0) = ((i + 1) % c.length == j || (j + 1) % c.length == i) := by
        intro i j hij hj
        obtain ⟨z1, z2⟩ := W.hole.2 i j hij hj
        refine ⟨z1, ?_⟩
        rw [Bool.eq_iff_iff, Bool.or_eq_true, beq_iff_eq, beq_iff_eq]
        dsimp only at z2
        rw [z2, mod_succ (show i < c.length by omega), mod_succ hj]
        constructor <;> intro _ <;> split at * <;> split at * <;> omega
      rcases Nat.lt_trichotomy i j with z | z | z
      · exact .inr (key i j z hj)
      · exact .inl z
      · obtain ⟨z1, z2⟩ := key j i z hi
        refine .inr ⟨fun q => z1 q.symm, ?_⟩
        rw [h.sym, z2, Bool.or_comm]
    · obtain ⟨i, hi, e⟩ := List.getElem_of_mem hv
      rw [List.length_drop] at hi
      have : v = c.getD (i + 1) 0 := by
        rw [← e, List.getElem_drop, List.getD_eq_getElem?_getD, List.getElem?_eq_getElem (by omega)]
        simp only [Option.getD_some]
        congr 1
        omega
      rw [this]
      exact W.least (i + 1) (by omega) (by omega)

/-! ### ways -/
def Con (g : G) : List Nat → Prop
  | [] => True
  | [_] => True
  | x :: y :: r => joined g x y = true ∧ Con g (y :: r)
theorem Con.tail {g : G} {x : Nat} {r : List Nat} (h : Con g (x :: r)) : Con g r := by
  cases r with
  | nil => trivial
  | cons y r => exact h.2
theorem Con.drop {g : G} : ∀ {p r : List Nat}, Con g (p ++ r) → Con g r
  | [], _, h => h
  | x :: p, r, h => Con.drop (p := p) h.tail
/-- all that are joined to some of m -/
def js (g : G) (m : Nat) : Nat := (ofMask m).foldl (fun a u => a ||| g.getD u 0) 0
theorem foldl_js {g : G} {i : Nat} : ∀ (l : List Nat) (acc : Nat), (l.foldl (fun a u => a ||| g.getD u 0) acc).testBit i = true ↔ acc.testBit i = true ∨ ∃ u ∈ l, joined g u i = true
  | [], acc => by simp
  | x :: l, acc => by
    rw [List.foldl_cons, foldl_js l, Nat.testBit_or, Bool.or_eq_true]
    simp only [List.mem_cons, exists_eq_or_imp]
    rw [or_assoc]
    rfl
theorem tb_js {g : G} {m i : Nat} : (js g m).testBit i = true ↔ ∃ u ∈ ofMask m, joined g u i = true := by
  unfold js
  rw [foldl_js]
  simp
theorem js_lt {g : G} (h : Gr g) (m : Nat) : js g m < 2 ^ g.length := by
  refine Nat.lt_pow_two_of_testBit _ fun i hi => ?_
  cases q : (js g m).testBit i with
  | false => rfl
  | true =>
    obtain ⟨u, _, j⟩ := tb_js.mp q
    have := h.lt j
    omega
/-- the layers behind one (last) within left, till one has a point of ga -/
def lay (g : G) (ga : Nat) : Nat → Nat → Nat → Option (List Nat)
  | 0, _, _ => none
  | f + 1, last, left => if last &&& ga ≠ 0 then some [] else if js g last &&& left = 0 then none else (lay g ga f (js g last &&& left) (wo left (js g last &&& left))).map fun r => (js g last &&& left) :: r
inductive Lays (g : G) (ga : Nat) : Nat → Nat → List Nat → Prop
  | stop {last left : Nat} : last &&& ga ≠ 0 → Lays g ga last left []
  | next {last left : Nat} {r : List Nat} : last &&& ga = 0 → js g last &&& left ≠ 0 → Lays g ga (js g last &&& left) (wo left (js g last &&& left)) r → Lays g ga last left ((js g last &&& left) :: r)
theorem lay_lays {g : G} {ga : Nat} : ∀ {f last left : Nat} {r : List Nat}, lay g ga f last left = some r → Lays g ga last left r
  | 0, _, _, _, h => by cases h
  | f + 1, last, left, r, h => by
    unfold lay at h
    by_cases c : last &&& ga ≠ 0
    · rw [if_pos c] at h
      cases h
      exact .stop c
    · rw [if_neg c] at h
      by_cases d : js g last &&& left = 0
      · rw [if_pos d] at h; cases h
      · rw [if_neg d] at h
        cases e : lay g ga f (js g last &&& left) (wo left (js g last &&& left)) with
        | none => rw [e] at h; cases h
        | some r' =>
          rw [e] at h
          cases h
          exact .next (by simpa using c) d (lay_lays e)
/-- the way back from a, the last layer first -/
def back (g : G) (a : Nat) : List Nat → List Nat
  | [] => []
  | L :: Ls => lp (g.getD ((back g a Ls).headD a) 0 &&& L) :: back g a Ls
/-- a way without a short cut -/
def Ind (g : G) : List Nat → Prop
  | [] => True
  | x :: r => (∀ y ∈ r, x ≠ y) ∧ (∀ y ∈ r.head?, joined g x y = true) ∧ (∀ y ∈ r.tail, joined g x y = false) ∧ Ind g r
theorem pick {g : G} (h : Gr g) {p L x : Nat} (hL : L < 2 ^ 32) (j : joined g p x = true) (hx : L.testBit x = true) :
    L.testBit (lp (g.getD p 0 &&& L)) = true ∧ joined g p (lp (g.getD p 0 &&& L)) = true ∧ lp (g.getD p 0 &&& L) ≤ x := by
  have hb : (g.getD p 0 &&& L).testBit x = true := by rw [Nat.testBit_and, hx]; unfold joined at j; rw [j]; rfl
  have h32 : g.getD p 0 &&& L < 2 ^ 32 := and_lt hL
  have h0 : g.getD p 0 &&& L ≠ 0 := by intro z; rw [z, Nat.zero_testBit] at hb; cases hb
  have q := lp_mem h32 h0
  rw [Nat.testBit_and, Bool.and_eq_true] at q
  exact ⟨q.2, q.1, lp_le h32 hb⟩
theorem back_ok {g : G} (h : Gr g) {a last left : Nat} {r : List Nat} (Y : Lays g (g.getD a 0) last left r) : last < 2 ^ 32 → left < 2 ^ 32 → (∀ x, last.testBit x = true → left.testBit x = false) → last.testBit a = false → left.testBit a = false →
    (back g a (last :: r)).length = r.length + 1 ∧ Ind g (back g a (last :: r) ++ [a]) ∧ ∃ x rest, back g a (last :: r) = x :: rest ∧ last.testBit x = true ∧ ∀ y ∈ rest, left.testBit y = true := by
  induction Y with
  | @stop last left c =>
    intro hl hf hd ha ha'
    obtain ⟨i, hi⟩ := exists_tb c
    rw [Nat.testBit_and, Bool.and_eq_true] at hi
    obtain ⟨p1, p2, _⟩ := pick h hl (show joined g a i = true from hi.2) hi.1
    have e : back g a [last] = [lp (g.getD a 0 &&& last)] := rfl
    rw [e]
    refine ⟨rfl, ?_, _, [], rfl, p1, fun y hy => nomatch hy⟩
    show Ind g (lp (g.getD a 0 &&& last) :: [a])
    refine ⟨fun y hy => ?_, fun y hy => ?_, fun y hy => (nomatch hy), fun y hy => (nomatch hy), fun y hy => (nomatch hy), fun y hy => (nomatch hy), trivial⟩
    · rw [List.mem_singleton] at hy
      subst hy
      intro z
      rw [z] at p1
      rw [p1] at ha
      cases ha
    · simp at hy
      subst hy
      rw [h.sym]
      exact p2
  | @next last left r c d Y ih =>
    intro hl hf hd ha ha'
    have hM : js g last &&& left < 2 ^ 32 := and_lt hf
    have inL : ∀ x, (js g last &&& left).testBit x = true → left.testBit x = true := fun x q => by
      rw [Nat.testBit_and, Bool.and_eq_true] at q; exact q.2
    have inW : ∀ x, (wo left (js g last &&& left)).testBit x = true → left.testBit x = true ∧ (js g last &&& left).testBit x = false := fun x q => by
      rw [tb_wo, Bool.and_eq_true] at q
      exact ⟨q.1, (Bool.not_eq_true' _).mp q.2⟩
    have no : ∀ {m : Nat}, (m.testBit a = true → left.testBit a = true) → m.testBit a = false := fun {m} q => by
      cases e : m.testBit a with
      | false => rfl
      | true => rw [q e] at ha'; cases ha'
    obtain ⟨l1, l2, y0, rest, e, hy0, hrest⟩ := ih hM (wo_lt hf) (fun x q => by
        rw [tb_wo, q]; simp) (no (inL a)) (no fun q => (inW a q).1)
    obtain ⟨u, hu, ju⟩ := tb_js.mp (by
      have := hy0
      rw [Nat.testBit_and, Bool.and_eq_true] at this
      exact this.1 : (js g last).testBit y0 = true)
    have hu' : last.testBit u = true := (mem_of.mp hu).2
    have eb : back g a (last :: (js g last &&& left) :: r) = lp (g.getD y0 0 &&& last) :: y0 :: rest := by
      show lp (g.getD ((back g a ((js g last &&& left) :: r)).headD a) 0 &&& last) :: back g a ((js g last &&& left) :: r) = _
      rw [e]
      rfl
    obtain ⟨p1, p2, _⟩ := pick h hl (show joined g y0 u = true by rw [h.sym]; exact ju) hu'
    have inR : ∀ y ∈ y0 :: rest, left.testBit y = true := fun y hy => by
      rcases List.mem_cons.mp hy with z | z
      · rw [z]; exact inL _ hy0
      · exact (inW y (hrest y z)).1
    rw [eb]
    rw [e] at l1 l2
    refine ⟨by rw [List.length_cons, l1, List.length_cons], ?_, _, _, rfl, p1, inR⟩
    refine ⟨fun y hy => ?_, fun y hy => ?_, fun y hy => ?_, l2⟩
    · rcases List.mem_append.mp hy with z | z
      · intro q
        have := inR y z
        rw [← q, hd _ p1] at this
        cases this
      · rw [List.mem_singleton.mp z]
        intro q
        rw [q, ha] at p1
        cases p1
    · simp at hy
      subst hy
      rw [h.sym]
      exact p2
    · have hy : y ∈ rest ++ [a] := hy
      rcases List.mem_append.mp hy with z | z
      · obtain ⟨w1, w2⟩ := inW y (hrest y z)
        cases q : joined g (lp (g.getD y0 0 &&& last)) y with
        | false => rfl
        | true =>
          have : (js g last &&& left).testBit y = true := by
            rw [Nat.testBit_and, w1, Bool.and_true]
            exact tb_js.mpr ⟨_, (mem_ofB hl).mpr p1, q⟩
          rw [this] at w2
          cases w2
      · rw [List.mem_singleton.mp z]
        cases q : joined g (lp (g.getD y0 0 &&& last)) a with
        | false => rfl
        | true =>
          rw [h.sym] at q
          have : (last &&& g.getD a 0).testBit (lp (g.getD y0 0 &&& last)) = true := by
            rw [Nat.testBit_and, p1]
            unfold joined at q
            rw [q]; rfl
          rw [c, Nat.zero_testBit] at this
          cases this
theorem ind_at {g : G} : ∀ {P : List Nat}, Ind g P → ∀ i j, i < j → j < P.length → P.getD i 0 ≠ P.getD j 0 ∧ (joined g (P.getD i 0) (P.getD j 0) = true ↔ i + 1 = j)
  | [], _, _, j, _, hj => absurd hj (Nat.not_lt_zero _)
  | x :: r, ⟨h1, h2, h3, h4⟩, 0, j + 1, _, hj => by
    have hj' : j < r.length := by simpa using hj
    have e1 : (x :: r).getD 0 0 = x := rfl
    have e2 : (x :: r).getD (j + 1) 0 = r[j] := by
      rw [List.getD_cons_succ, List.getD_eq_getElem?_getD, List.getElem?_eq_getElem hj']; rfl
    rw [e1, e2]
    refine ⟨h1 _ (List.getElem_mem hj'), ?_⟩
    cases j with
    | zero =>
      have : r[0] ∈ r.head? := by
        cases r with
        | nil => simp at hj'
        | cons y r => simp
      exact ⟨fun _ => rfl, fun _ => h2 _ this⟩
    | succ j =>
      have : r[j + 1] ∈ r.tail := by
        cases r with
        | nil => simp at hj'
        | cons y r =>
          simp only [List.tail_cons, List.getElem_cons_succ]
          exact List.getElem_mem _
      rw [h3 _ this]
      constructor
      · intro z; cases z
      · intro z; omega
  | x :: r, ⟨h1, h2, h3, h4⟩, i + 1, j + 1, hij, hj => by
    have hj' : j < r.length := by simpa using hj
    rw [List.getD_cons_succ, List.getD_cons_succ]
    have := ind_at h4 i j (by omega) hj'
    refine ⟨this.1, ?_⟩
    rw [this.2]
    constructor <;> intro _ <;> omega
theorem getD_rev (P : List Nat) (i : Nat) (h : i < P.length) : P.reverse.getD i 0 = P.getD (P.length - 1 - i) 0 := by
  rw [List.getD_eq_getElem?_getD, List.getD_eq_getElem?_getD, List.getElem?_reverse h]
/-- a point and a way past it between two neighbours make a hole -/
theorem hole_of {g : G} (h : Gr g) {u : Nat} {P : List Nat} (hP : Ind g P) (h3 : 3 ≤ P.length) (hn : ∀ i, i < P.length → u ≠ P.getD i 0)
    (hj : ∀ i, i < P.length → (joined g u (P.getD i 0) = true ↔ (i = 0 ∨ i + 1 = P.length))) : Hole g (u :: P.reverse).length (fun i => (u :: P.reverse).getD i 0) := by
  have hl : (u :: P.reverse).length = P.length + 1 := by simp
  rw [hl]
  refine ⟨by omega, fun i j hij hjl => ?_⟩
  have at' : ∀ q, q < P.length → (u :: P.reverse).getD (q + 1) 0 = P.getD (P.length - 1 - q) 0 := fun q hq => by
    rw [List.getD_cons_succ, getD_rev P q hq]
  cases j with
  | zero => omega
  | succ j =>
    simp only
    rw [at' j (by omega)]
    cases i with
    | zero =>
      have e : (u :: P.reverse).getD 0 0 = u := rfl
      rw [e]
      refine ⟨hn _ (by omega), ?_⟩
      rw [hj _ (by omega)]
      constructor <;> intro _ <;> omega
    | succ i =>
      rw [at' i (by omega)]
      have := ind_at hP (P.length - 1 - j) (P.length - 1 - i) (by omega) (by omega)
      refine ⟨fun z => this.1 z.symm, ?_⟩
      rw [h.sym, this.2]
      constructor <;> intro _ <;> omega
end Gm

set_option linter.all false
namespace Gm
open Sa79

/-! ### order of rows -/
def Lt : List Nat → List Nat → Prop
  | _, [] => False
  | [], _ :: _ => True
  | x :: xs, y :: ys => x < y ∨ (x = y ∧ Lt xs ys)
theorem Lt.nil : ∀ {a : List Nat}, ¬ Lt a []
  | [] => fun h => h
  | _ :: _ => fun h => h
def Le (a b : List Nat) : Prop := a = b ∨ Lt a b
theorem Lt.irr : ∀ {a : List Nat}, ¬ Lt a a
  | [] => fun h => h
  | x :: xs => fun h => by
    rcases h with z | ⟨_, z⟩
    · exact Nat.lt_irrefl _ z
    · exact Lt.irr z
theorem Lt.trans : ∀ {a b c : List Nat}, Lt a b → Lt b c → Lt a c
  | _, [], _, h, _ => (Lt.nil h).elim
  | _, _ :: _, [], _, h => (Lt.nil h).elim
  | [], _ :: _, _ :: _, _, _ => trivial
  | x :: xs, y :: ys, z :: zs, h1, h2 => by
    rcases h1 with p | ⟨p, p'⟩ <;> rcases h2 with q | ⟨q, q'⟩
    · exact .inl (Nat.lt_trans p q)
    · exact .inl (q ▸ p)
    · exact .inl (p ▸ q)
    · exact .inr ⟨p.trans q, Lt.trans p' q'⟩
theorem Lt.tri : ∀ (a b : List Nat), Lt a b ∨ a = b ∨ Lt b a
  | [], [] => .inr (.inl rfl)
  | [], _ :: _ => .inl trivial
  | _ :: _, [] => .inr (.inr trivial)
  | x :: xs, y :: ys => by
    rcases Nat.lt_trichotomy x y with p | p | p
    · exact .inl (.inl p)
    · rcases Lt.tri xs ys with q | q | q
      · exact .inl (.inr ⟨p, q⟩)
      · exact .inr (.inl (by rw [p, q]))
      · exact .inr (.inr (.inr ⟨p.symm, q⟩))
    · exact .inr (.inr (.inl p))
theorem Lt.app : ∀ {a b : List Nat} (c d : List Nat), Lt a b → a.length = b.length → Lt (a ++ c) (b ++ d)
  | _, [], _, _, h, _ => (Lt.nil h).elim
  | [], _ :: _, _, _, _, e => by simp at e
  | x :: xs, y :: ys, c, d, h, e => by
    rcases h with p | ⟨p, q⟩
    · exact .inl p
    · exact .inr ⟨p, Lt.app c d q (by simpa using e)⟩
theorem Lt.pre {c d : List Nat} : ∀ (a : List Nat), Lt c d → Lt (a ++ c) (a ++ d)
  | [], h => h
  | x :: xs, h => .inr ⟨rfl, Lt.pre xs h⟩
theorem Le.antisymm {a b : List Nat} (h1 : Le a b) (h2 : Le b a) : a = b := by
  rcases h1 with z | z
  · exact z
  · rcases h2 with q | q
    · exact q.symm
    · exact absurd (z.trans q) Lt.irr
theorem Le.trans {a b c : List Nat} (h1 : Le a b) (h2 : Le b c) : Le a c := by
  rcases h1 with z | z
  · rw [z]; exact h2
  · rcases h2 with q | q
    · rw [← q]; exact .inr z
    · exact .inr (z.trans q)
theorem mem_rows {n : Nat} : ∀ {k : Nat} {r : List Nat}, r ∈ rows n k ↔ r.length = k ∧ ∀ x ∈ r, x < n
  | 0, r => by
    unfold rows
    rw [List.mem_singleton]
    constructor
    · rintro rfl
      exact ⟨rfl, fun x hx => nomatch hx⟩
    · rintro ⟨h, _⟩
      exact List.eq_nil_of_length_eq_zero h
  | k + 1, r => by
    unfold rows
    rw [List.mem_flatMap]
    constructor
    · rintro ⟨x, hx, h⟩
      rw [List.mem_map] at h
      obtain ⟨s, hs, rfl⟩ := h
      obtain ⟨h1, h2⟩ := mem_rows.mp hs
      refine ⟨by rw [List.length_cons, h1], fun y hy => ?_⟩
      rcases List.mem_cons.mp hy with z | z
      · rw [z]; exact List.mem_range.mp hx
      · exact h2 y z
    · rintro ⟨h1, h2⟩
      cases r with
      | nil => cases h1
      | cons x s =>
        refine ⟨x, List.mem_range.mpr (h2 x List.mem_cons_self), List.mem_map.mpr ⟨s, mem_rows.mpr ⟨by simpa using h1, fun y hy => h2 y (List.mem_cons_of_mem _ hy)⟩, rfl⟩⟩
theorem rows_sorted (n : Nat) : ∀ k, (rows n k).Pairwise Lt
  | 0 => by unfold rows; exact List.pairwise_singleton _ _
  | k + 1 => by
    unfold rows
    rw [List.pairwise_flatMap]
    refine ⟨fun x _ => ?_, ?_⟩
    · rw [List.pairwise_map]
      exact (rows_sorted n k).imp fun h => .inr ⟨rfl, h⟩
    · refine List.pairwise_lt_range.imp fun {x y} h => ?_
      intro a ha b hb
      obtain ⟨s, _, rfl⟩ := List.mem_map.mp ha
      obtain ⟨t, _, rfl⟩ := List.mem_map.mp hb
      exact .inl h
theorem find_least {p : List Nat → Bool} : ∀ {l : List (List Nat)}, l.Pairwise Lt → ∀ {x}, l.find? p = some x → ∀ y ∈ l, p y = true → Le x y
  | [], _, _, h, _, _, _ => by cases h
  | a :: l, hs, x, h, y, hy, py => by
    obtain ⟨h1, h2⟩ := List.pairwise_cons.mp hs
    rw [List.find?_cons] at h
    cases c : p a with
    | true =>
      rw [c] at h
      cases h
      rcases List.mem_cons.mp hy with z | z
      · exact .inl z.symm
      · exact .inr (h1 y z)
    | false =>
      rw [c] at h
      rcases List.mem_cons.mp hy with z | z
      · rw [z, c] at py; cases py
      · exact find_least h2 h y z py
theorem findSome_range {α : Type} {F : Nat → Option α} {k : Nat} {x : α} (h0 : ∀ i, i < k → F i = none) (hk : F k = some x) : ∀ m, k < m → (List.range m).findSome? F = some x
  | 0, h => absurd h (Nat.not_lt_zero _)
  | m + 1, h => by
    rw [List.range_succ, List.findSome?_append]
    by_cases c : k < m
    · rw [findSome_range h0 hk m c]
      rfl
    · have e : k = m := by omega
      subst e
      have : (List.range k).findSome? F = none := by
        rw [List.findSome?_eq_none_iff]
        intro i hi
        exact h0 i (List.mem_range.mp hi)
      rw [this]
      simp [hk]
theorem length_ne {v : Nat} : ∀ {l : List Nat}, l.Nodup → v ∈ l → l.length = (l.filter fun u => u != v).length + 1
  | [], _, h => nomatch h
  | a :: r, nd, hv => by
    obtain ⟨n1, n2⟩ := List.nodup_cons.mp nd
    rcases List.mem_cons.mp hv with z | z
    · subst z
      have e : (v :: r).filter (fun u => u != v) = r := by
        rw [List.filter_cons_of_neg (by simp)]
        refine List.filter_eq_self.mpr fun x hx => ?_
        have : x ≠ v := by rintro rfl; exact n1 hx
        simp [this]
      rw [e]
      rfl
    · have ne : a ≠ v := by rintro rfl; exact n1 z
      rw [List.filter_cons_of_pos (by simp [ne])]
      have := length_ne n2 z
      simp only [List.length_cons]
      omega
theorem nodup_le : ∀ (n : Nat) {l : List Nat}, l.Nodup → (∀ x ∈ l, x < n) → l.length ≤ n
  | 0, l, _, h => by
    cases l with
    | nil => exact Nat.le_refl _
    | cons a r => exact absurd (h a List.mem_cons_self) (Nat.not_lt_zero _)
  | n + 1, l, nd, h => by
    by_cases c : n ∈ l
    · rw [length_ne nd c]
      refine Nat.succ_le_succ (nodup_le n (nd.filter _) fun x hx => ?_)
      obtain ⟨h1, h2⟩ := List.mem_filter.mp hx
      have := h x h1
      have : x ≠ n := by simpa using h2
      omega
    · refine Nat.le_succ_of_le (nodup_le n nd fun x hx => ?_)
      have := h x hx
      have : x ≠ n := by rintro rfl; exact c hx
      omega
theorem getD_mem' {c : List Nat} {i : Nat} (h : i < c.length) : c.getD i 0 ∈ c := by
  rw [List.getD_eq_getElem?_getD, List.getElem?_eq_getElem h]
  exact List.getElem_mem h
theorem mem_getD' {c : List Nat} {x : Nat} (h : x ∈ c) : ∃ i, i < c.length ∧ c.getD i 0 = x := by
  obtain ⟨i, hi, e⟩ := List.getElem_of_mem h
  exact ⟨i, hi, by rw [List.getD_eq_getElem?_getD, List.getElem?_eq_getElem hi]; exact e⟩
theorem Written.lt {g : G} (h : Gr g) {c : List Nat} (W : Written g c) : ∀ x ∈ c, x < g.length := by
  intro x hx
  obtain ⟨i, hi, rfl⟩ := mem_getD' hx
  have h4 := W.hole.1
  by_cases c0 : i + 1 < c.length
  · exact h.lt' ((W.hole.2 i (i + 1) (by omega) c0).2.mpr (.inl rfl))
  · exact h.lt ((W.hole.2 0 i (by omega) hi).2.mpr (.inr ⟨rfl, by omega⟩))
theorem Written.nodup {g : G} {c : List Nat} (W : Written g c) : c.Nodup := by
  rw [List.nodup_iff_pairwise_ne, List.pairwise_iff_getElem]
  intro i j hi hj hij
  have := (W.hole.2 i j hij hj).1
  dsimp only at this
  rw [List.getD_eq_getElem?_getD, List.getElem?_eq_getElem hi, List.getD_eq_getElem?_getD, List.getElem?_eq_getElem hj] at this
  exact this
/-- the first of the shortest is the specification's -/
theorem circle_eq {g : G} (h : Gr g) {r : List Nat} (hr : Written g r) (min : ∀ c, Written g c → r.length ≤ c.length ∧ (c.length = r.length → Le r c)) : circle g = some r := by
  have hlen : r.length ≤ g.length := nodup_le _ hr.nodup (hr.lt h)
  unfold circle
  refine findSome_range (k := r.length) (fun i hi => ?_) ?_ _ (by omega)
  · rw [List.find?_eq_none]
    intro c hc q
    obtain ⟨e, _⟩ := mem_rows.mp hc
    have := (min c ((circle_iff h).mp q)).1
    omega
  · cases e : (rows g.length r.length).find? (isCircle g) with
    | none =>
      rw [List.find?_eq_none] at e
      exact absurd ((circle_iff h).mpr hr) (e r (mem_rows.mpr ⟨rfl, hr.lt h⟩))
    | some c =>
      have hc := List.find?_some e
      have hm := List.mem_of_find?_eq_some e
      have l1 := find_least (rows_sorted _ _) e r (mem_rows.mpr ⟨rfl, hr.lt h⟩) ((circle_iff h).mpr hr)
      have l2 := (min c ((circle_iff h).mp hc)).2 (mem_rows.mp hm).1
      rw [l1.antisymm l2]

/-! ### layers and ways within them -/
def Al : List Nat → List Nat → Prop
  | [], [] => True
  | x :: xs, L :: Ls => L.testBit x = true ∧ Al xs Ls
  | _, _ => False
theorem last_in {p : Nat → Bool} : ∀ {l : List Nat}, (∃ x ∈ l, p x = true) → ∃ pre z suf, l = pre ++ z :: suf ∧ p z = true ∧ ∀ y ∈ suf, p y = false
  | [], ⟨_, h, _⟩ => nomatch h
  | a :: l, hx => by
    by_cases c : ∃ x ∈ l, p x = true
    · obtain ⟨pre, z, suf, e, h1, h2⟩ := last_in c
      exact ⟨a :: pre, z, suf, by rw [e]; rfl, h1, h2⟩
    · refine ⟨[], a, l, rfl, ?_, fun y hy => ?_⟩
      · obtain ⟨x, hx, px⟩ := hx
        rcases List.mem_cons.mp hx with z | z
        · rw [← z]; exact px
        · exact absurd ⟨x, z, px⟩ c
      · cases q : p y with
        | false => rfl
        | true => exact absurd ⟨y, hy, q⟩ c
theorem of_wo (m t : Nat) : ofMask (wo m t) = (ofMask m).filter fun k => !t.testBit k := by
  unfold ofMask
  rw [List.filter_filter]
  congr 1
  funext k
  rw [tb_wo, Bool.and_comm]
theorem wo_fewer {m t x : Nat} (hm : m < 2 ^ 32) (h1 : m.testBit x = true) (h2 : t.testBit x = true) : (ofMask (wo m t)).length < (ofMask m).length := by
  rw [of_wo]
  refine List.length_filter_lt_length_iff_exists.mpr ⟨x, (mem_ofB hm).mpr h1, ?_⟩
  rw [h2]
  simp
theorem getLast_app {pre suf : List Nat} {z : Nat} : (pre ++ z :: suf).getLast? = (z :: suf).getLast? := by
  rw [List.getLast?_append]
  cases e : (z :: suf).getLast? with
  | none => simp at e
  | some y => rfl
theorem bfs {g : G} (h : Gr g) {a : Nat} : ∀ (f last left : Nat) (zs : List Nat), last < 2 ^ 32 → left < 2 ^ 32 → (ofMask left).length < f → (∃ z0 rest, zs = z0 :: rest ∧ last.testBit z0 = true ∧ ∀ y ∈ rest, left.testBit y = true) → Con g zs →
    (∃ z, zs.getLast? = some z ∧ joined g a z = true) → ∃ r, lay g (g.getD a 0) f last left = some r ∧ r.length + 1 ≤ zs.length ∧ (r.length + 1 = zs.length → Al zs (last :: r))
  | 0, _, _, _, _, _, hf, _, _, _ => absurd hf (Nat.not_lt_zero _)
  | f + 1, last, left, zs, hl, hL, hf, ⟨z0, rest, e, hz0, hrest⟩, hc, ⟨z, hz, jz⟩ => by
    subst e
    unfold lay
    by_cases c : last &&& g.getD a 0 ≠ 0
    · rw [if_pos c]
      refine ⟨[], rfl, by simp, fun q => ?_⟩
      have : rest = [] := by cases rest with
        | nil => rfl
        | cons _ _ => simp at q
      subst this
      exact ⟨hz0, trivial⟩
    · rw [if_neg c]
      have c : last &&& g.getD a 0 = 0 := by simpa using c
      cases rest with
      | nil =>
        exfalso
        simp at hz
        subst hz
        have : (last &&& g.getD a 0).testBit z0 = true := by rw [Nat.testBit_and, hz0]; unfold joined at jz; rw [jz]; rfl
        rw [c, Nat.zero_testBit] at this
        cases this
      | cons z1 rest =>
        have hz1 : left.testBit z1 = true := hrest z1 List.mem_cons_self
        have hM1 : (js g last &&& left).testBit z1 = true := by
          rw [Nat.testBit_and, hz1, Bool.and_true]
          exact tb_js.mpr ⟨z0, (mem_ofB hl).mpr hz0, hc.1⟩
        have hM0 : js g last &&& left ≠ 0 := by intro q; rw [q, Nat.zero_testBit] at hM1; cases hM1
        rw [if_neg hM0]
        obtain ⟨pre, y, suf, e, hy, hsuf⟩ := last_in (p := fun x => (js g last &&& left).testBit x) ⟨z1, List.mem_cons_self, hM1⟩
        have hcon : Con g (y :: suf) := by
          have := hc.tail
          rw [e] at this
          exact this.drop
        have hlast : (y :: suf).getLast? = some z := by
          rw [← getLast_app (pre := z0 :: pre), ← hz, e]
          rfl
        obtain ⟨r, e1, e2, e3⟩ := bfs h f (js g last &&& left) (wo left (js g last &&& left)) (y :: suf) (and_lt hL) (wo_lt hL)
          (by have := wo_fewer hL hz1 hM1; omega)
          ⟨y, suf, rfl, hy, fun x hx => by
            have : left.testBit x = true := hrest x (by rw [e]; exact List.mem_append_right _ (List.mem_cons_of_mem _ hx))
            rw [tb_wo, this, hsuf x hx]; rfl⟩ hcon ⟨z, hlast, jz⟩
        rw [e1]
        have hlen : (z1 :: rest).length = pre.length + (suf.length + 1) := by rw [e, List.length_append, List.length_cons]
        simp only [List.length_cons] at hlen e2
        refine ⟨_, rfl, by simp only [List.length_cons]; omega, fun q => ?_⟩
        simp only [List.length_cons] at q
        have hp : pre = [] := List.eq_nil_of_length_eq_zero (by omega)
        subst hp
        have e : z1 :: rest = y :: suf := e
        rw [e]
        exact ⟨hz0, e3 (by simp only [List.length_cons]; omega)⟩
theorem Al.length : ∀ {xs Ls : List Nat}, Al xs Ls → xs.length = Ls.length
  | [], [], _ => rfl
  | _ :: xs, _ :: Ls, h => by rw [List.length_cons, List.length_cons, Al.length h.2]
  | [], _ :: _, h => h.elim
  | _ :: _, [], h => h.elim
theorem back_length (g : G) (a : Nat) : ∀ Ls : List Nat, (back g a Ls).length = Ls.length
  | [] => rfl
  | _ :: Ls => by
    show (back g a Ls).length + 1 = _
    rw [back_length g a Ls]; rfl
theorem back_min {g : G} (h : Gr g) {a last left : Nat} {r : List Nat} (Y : Lays g (g.getD a 0) last left r) : last < 2 ^ 32 → left < 2 ^ 32 → ∀ zs, Al zs (last :: r) → Con g zs → (∃ z, zs.getLast? = some z ∧ joined g a z = true) → Le (back g a (last :: r)).reverse zs.reverse := by
  induction Y with
  | @stop last left c =>
    intro hl hL zs al con hz
    obtain ⟨z, e, j⟩ := hz
    match zs, al with
    | [z0], al =>
      simp at e
      subst e
      obtain ⟨_, _, p3⟩ := pick h hl j al.1
      show Le [lp (g.getD a 0 &&& last)] [z0]
      rcases Nat.eq_or_lt_of_le p3 with q | q
      · exact .inl (by rw [q])
      · exact .inr (.inl q)
  | @next last left r c d Y ih =>
    intro hl hL zs al con hz
    match zs, al with
    | z0 :: z1 :: zs, al =>
      have i := ih (and_lt hL) (wo_lt hL) (z1 :: zs) al.2 con.2 (by
        obtain ⟨z, e, j⟩ := hz
        refine ⟨z, ?_, j⟩
        rw [← e]
        exact (getLast_app (pre := [z0])).symm)
      have eb : back g a (last :: (js g last &&& left) :: r) = lp (g.getD ((back g a ((js g last &&& left) :: r)).headD a) 0 &&& last) :: back g a ((js g last &&& left) :: r) := rfl
      rw [eb, List.reverse_cons, List.reverse_cons]
      rcases i with q | q
      · have q' : back g a ((js g last &&& left) :: r) = z1 :: zs := List.reverse_inj.mp q
        rw [q']
        show Le ((z1 :: zs).reverse ++ [lp (g.getD z1 0 &&& last)]) _
        obtain ⟨_, _, p3⟩ := pick h hl (show joined g z1 z0 = true by rw [h.sym]; exact con.1) al.1
        rcases Nat.eq_or_lt_of_le p3 with q | q
        · exact .inl (by rw [q])
        · exact .inr (Lt.pre _ (.inl q))
      · refine .inr (Lt.app _ _ q ?_)
        rw [List.length_reverse, List.length_reverse, back_length, ← al.2.length]

/-! ### the program's circles -/
def firstWay (g : G) (a b inner : Nat) : List Nat := match lay g (g.getD a 0) 33 (2 ^ b) inner with
  | none => []
  | some r => a :: (back g a (2 ^ b :: r)).reverse
def above (g : G) (u : Nat) : Nat := wo (2 ^ g.length - 1) (2 ^ (u + 1) - 1)
def nb (g : G) (u : Nat) : Nat := g.getD u 0 &&& above g u
def oth (g : G) (u : Nat) : Nat := wo (above g u) (g.getD u 0)
def circlesAB (g : G) (u a b : Nat) : List (List Nat) := if a < b then (if firstWay g a b (oth g u) = [] then [] else [u :: firstWay g a b (oth g u)]) else []
def circlesA (g : G) (u a : Nat) : List (List Nat) := (ofMask (wo (nb g u) (g.getD a 0))).flatMap (circlesAB g u a)
def circlesFrom (g : G) (u : Nat) : List (List Nat) := (ofMask (nb g u)).flatMap (circlesA g u)
def allCircles (g : G) : List (List Nat) := (List.range g.length).flatMap (circlesFrom g)
theorem tb_above (g : G) (u i : Nat) : (above g u).testBit i = true ↔ u < i ∧ i < g.length := by
  unfold above
  rw [tb_wo, Nat.testBit_two_pow_sub_one, Nat.testBit_two_pow_sub_one, Bool.and_eq_true, Bool.not_eq_true', decide_eq_true_eq, decide_eq_false_iff_not]
  constructor
  · rintro ⟨h1, h2⟩; exact ⟨by omega, h1⟩
  · rintro ⟨h1, h2⟩; exact ⟨h2, by omega⟩
theorem tb_nb (g : G) (u i : Nat) : (nb g u).testBit i = true ↔ joined g u i = true ∧ u < i ∧ i < g.length := by
  unfold nb
  rw [Nat.testBit_and, Bool.and_eq_true, tb_above]
  rfl
theorem tb_oth (g : G) (u i : Nat) : (oth g u).testBit i = true ↔ (u < i ∧ i < g.length) ∧ joined g u i = false := by
  unfold oth
  rw [tb_wo, Bool.and_eq_true, tb_above, Bool.not_eq_true']
  rfl
theorem above_lt {g : G} (h : Gr g) (u : Nat) : above g u < 2 ^ 32 := wo_lt h.all32
theorem nb_lt {g : G} (h : Gr g) (u : Nat) : nb g u < 2 ^ 32 := and_lt (above_lt h u)
theorem oth_lt {g : G} (h : Gr g) (u : Nat) : oth g u < 2 ^ 32 := wo_lt (above_lt h u)
/-- what a way within inner, past u, between two of u's neighbours makes -/
theorem way_hole {g : G} (h : Gr g) {u a b inner : Nat} {r : List Nat} (hi : inner < 2 ^ 32) (ja : joined g u a = true) (jb : joined g u b = true) (nab : joined g a b = false) (ne : a ≠ b)
    (hin : ∀ x, inner.testBit x = true → joined g u x = false ∧ u ≠ x) (e : lay g (g.getD a 0) 33 (2 ^ b) inner = some r) :
    Hole g (u :: a :: (back g a (2 ^ b :: r)).reverse).length (fun i => (u :: a :: (back g a (2 ^ b :: r)).reverse).getD i 0) ∧ (∃ rest, back g a (2 ^ b :: r) = b :: rest ∧ ∀ y ∈ rest, inner.testBit y = true) := by
  have Y := lay_lays e
  have hb : b < 32 := Nat.lt_of_lt_of_le (h.lt jb) h.len32
  have noI : ∀ x, joined g u x = true → inner.testBit x = false := fun x q => by
    cases c : inner.testBit x with
    | false => rfl
    | true => rw [(hin x c).1] at q; cases q
  obtain ⟨l1, l2, x, rest, e2, hx, hrest⟩ := back_ok h Y (pow_lt32 hb) hi (fun x q => by
      rw [tb_pow, decide_eq_true_eq] at q
      rw [← q]; exact noI b jb) (by rw [tb_pow, decide_eq_false (fun z => ne z.symm)]) (noI a ja)
  rw [tb_pow, decide_eq_true_eq] at hx
  subst hx
  refine ⟨?_, rest, e2, hrest⟩
  have hr : r ≠ [] := by
    intro z
    subst z
    cases Y with
    | stop c =>
      obtain ⟨i, hi⟩ := exists_tb c
      rw [Nat.testBit_and, Bool.and_eq_true, tb_pow, decide_eq_true_eq] at hi
      obtain ⟨rfl, hi⟩ := hi
      have : joined g a b = true := hi
      rw [this] at nab
      cases nab
  have er : (a :: (back g a (2 ^ b :: r)).reverse) = (back g a (2 ^ b :: r) ++ [a]).reverse := by rw [List.reverse_append]; rfl
  rw [er]
  have hlen : (back g a (2 ^ b :: r) ++ [a]).length = r.length + 2 := by rw [List.length_append, l1]; rfl
  have hr1 : 1 ≤ r.length := by
    cases r with
    | nil => exact absurd rfl hr
    | cons _ _ => simp
  have at0 : (back g a (2 ^ b :: r) ++ [a]).getD 0 0 = b := by rw [e2]; rfl
  have atL : (back g a (2 ^ b :: r) ++ [a]).getD (r.length + 1) 0 = a := by
    rw [List.getD_eq_getElem?_getD, List.getElem?_append_right (by omega), l1]
    simp
  have atM : ∀ i, 0 < i → i < r.length + 1 → inner.testBit ((back g a (2 ^ b :: r) ++ [a]).getD i 0) = true := fun i h0 h1 => by
    rw [e2] at l1 ⊢
    obtain ⟨i, rfl⟩ : ∃ j, i = j + 1 := ⟨i - 1, by omega⟩
    simp only [List.length_cons] at l1
    rw [List.cons_append, List.getD_cons_succ, List.getD_eq_getElem?_getD, List.getElem?_append_left (by omega), List.getElem?_eq_getElem (by omega)]
    exact hrest _ (List.getElem_mem _)
  refine hole_of h l2 (by omega) (fun i hi => ?_) fun i hi => ?_
  · rw [hlen] at hi
    by_cases c0 : i = 0
    · rw [c0, at0]; exact h.ne jb
    · by_cases c1 : i = r.length + 1
      · rw [c1, atL]; exact h.ne ja
      · exact (hin _ (atM i (by omega) (by omega))).2
  · rw [hlen] at hi ⊢
    by_cases c0 : i = 0
    · rw [c0, at0, jb]; exact ⟨fun _ => .inl rfl, fun _ => rfl⟩
    · by_cases c1 : i = r.length + 1
      · rw [c1, atL, ja]; exact ⟨fun _ => .inr (by omega), fun _ => rfl⟩
      · rw [(hin _ (atM i (by omega) (by omega))).1]
        constructor
        · intro z; cases z
        · intro z; omega
theorem mem_all {g : G} {c : List Nat} : c ∈ allCircles g ↔ ∃ u a b r, u < g.length ∧ a ∈ ofMask (nb g u) ∧ b ∈ ofMask (wo (nb g u) (g.getD a 0)) ∧ a < b ∧ lay g (g.getD a 0) 33 (2 ^ b) (oth g u) = some r ∧ c = u :: a :: (back g a (2 ^ b :: r)).reverse := by
  unfold allCircles circlesFrom circlesA
  simp only [List.mem_flatMap, List.mem_range]
  constructor
  · rintro ⟨u, hu, a, ha, b, hb, h⟩
    unfold circlesAB firstWay at h
    by_cases c1 : a < b
    · rw [if_pos c1] at h
      cases e : lay g (g.getD a 0) 33 (2 ^ b) (oth g u) with
      | none => rw [e] at h; simp at h
      | some r =>
        rw [e] at h
        rw [if_neg (by simp), List.mem_singleton] at h
        exact ⟨u, a, b, r, hu, ha, hb, c1, e, h⟩
    · rw [if_neg c1] at h; cases h
  · rintro ⟨u, a, b, r, hu, ha, hb, c1, e, rfl⟩
    refine ⟨u, hu, a, ha, b, hb, ?_⟩
    unfold circlesAB firstWay
    rw [if_pos c1, e, if_neg (by simp)]
    exact List.mem_singleton.mpr rfl
theorem ab_of {g : G} (h : Gr g) {u a b : Nat} (ha : a ∈ ofMask (nb g u)) (hb : b ∈ ofMask (wo (nb g u) (g.getD a 0))) : (joined g u a = true ∧ u < a ∧ a < g.length) ∧ (joined g u b = true ∧ u < b ∧ b < g.length) ∧ joined g a b = false := by
  have h1 := (tb_nb g u a).mp (mem_of.mp ha).2
  have h2 := (mem_of.mp hb).2
  rw [tb_wo, Bool.and_eq_true, Bool.not_eq_true'] at h2
  exact ⟨h1, (tb_nb g u b).mp h2.1, h2.2⟩
theorem all_written {g : G} (h : Gr g) {c : List Nat} (hc : c ∈ allCircles g) : Written g c := by
  obtain ⟨u, a, b, r, hu, ha, hb, lt, e, rfl⟩ := mem_all.mp hc
  obtain ⟨⟨a1, a2, a3⟩, ⟨b1, b2, b3⟩, nab⟩ := ab_of h ha hb
  obtain ⟨H, rest, e2, hr⟩ := way_hole h (oth_lt h u) a1 b1 nab (by omega) (fun x q => by
    have := (tb_oth g u x).mp q
    exact ⟨this.2, by omega⟩) e
  have hmem : ∀ x ∈ a :: (back g a (2 ^ b :: r)).reverse, u < x := fun x hx => by
    rcases List.mem_cons.mp hx with z | z
    · omega
    · rw [List.mem_reverse, e2] at z
      rcases List.mem_cons.mp z with z | z
      · omega
      · exact ((tb_oth g u x).mp (hr x z)).1.1
  refine ⟨H, fun i h0 hi => ?_, ?_⟩
  · obtain ⟨i, rfl⟩ : ∃ j, i = j + 1 := ⟨i - 1, by omega⟩
    show u < (u :: a :: (back g a (2 ^ b :: r)).reverse).getD (i + 1) 0
    rw [List.getD_cons_succ]
    exact hmem _ (getD_mem' (by simpa using hi))
  · have hl : (u :: a :: (back g a (2 ^ b :: r)).reverse).length - 1 = (back g a (2 ^ b :: r)).length + 1 := by simp
    rw [hl, List.getD_cons_succ, List.getD_cons_succ]
    show a < (a :: (back g a (2 ^ b :: r)).reverse).getD ((back g a (2 ^ b :: r)).length) 0
    rw [e2]
    have : (a :: (b :: rest).reverse).getD (b :: rest).length 0 = b := by
      rw [List.length_cons, List.getD_cons_succ, List.reverse_cons, List.getD_eq_getElem?_getD, List.getElem?_append_right (by simp)]
      simp
    rw [this]
    exact lt
theorem con_iff {g : G} : ∀ {l : List Nat}, (∀ i, i + 1 < l.length → joined g (l.getD i 0) (l.getD (i + 1) 0) = true) → Con g l
  | [], _ => trivial
  | [_], _ => trivial
  | x :: y :: r, h => ⟨h 0 (by simp), con_iff fun i hi => by
      have := h (i + 1) (by simpa using hi)
      simpa using this⟩
/-- a shortest circle has one of the program's before it, or is it -/
theorem found {g : G} (h : Gr g) {c : List Nat} (W : Written g c) (min : ∀ c', Written g c' → c.length ≤ c'.length) : ∃ c' ∈ allCircles g, c'.length = c.length ∧ Le c' c := by
  obtain ⟨h4, H⟩ := W.hole
  dsimp only at H
  match c, h4, H, W, min with
  | u :: a :: ws, h4, H, W, min =>
    have hw : 2 ≤ ws.length := by simpa using h4
    have hlen : (u :: a :: ws).length = ws.length + 2 := by simp
    rw [hlen] at H
    have at0 : (u :: a :: ws).getD 0 0 = u := rfl
    have at1 : (u :: a :: ws).getD 1 0 = a := rfl
    have at2 : ∀ i, (u :: a :: ws).getD (i + 2) 0 = ws.getD i 0 := fun i => by rw [List.getD_cons_succ, List.getD_cons_succ]
    -- the last point
    have hb : ∃ b, ws.getD (ws.length - 1) 0 = b := ⟨_, rfl⟩
    obtain ⟨b, hb⟩ := hb
    have lst : (u :: a :: ws).getD (ws.length + 1) 0 = b := by
      have : ws.length + 1 = (ws.length - 1) + 2 := by omega
      rw [this, at2, hb]
    have ja : joined g u a = true := by
      have := (H 0 1 (by omega) (by omega)).2.mpr (.inl rfl)
      rw [at0, at1] at this; exact this
    have jb : joined g u b = true := by
      have := (H 0 (ws.length + 1) (by omega) (by omega)).2.mpr (.inr ⟨rfl, by omega⟩)
      rw [at0, lst] at this; exact this
    have nab : joined g a b = false := by
      have := (H 1 (ws.length + 1) (by omega) (by omega)).2
      rw [at1, lst] at this
      cases q : joined g a b with
      | false => rfl
      | true => have := this.mp q; omega
    have ua : u < a := by have := W.least 1 (by omega) (by simp); exact this
    have ub : u < b := by
      have := W.least (ws.length + 1) (by omega) (by simp)
      rw [lst, at0] at this; exact this
    have ab : a < b := by
      have := W.dir
      have e : (u :: a :: ws).length - 1 = ws.length + 1 := by simp
      rw [e, lst, at1] at this
      exact this
    have an := h.lt ja
    have bn := h.lt jb
    have ha : a ∈ ofMask (nb g u) := (mem_ofB (nb_lt h u)).mpr ((tb_nb g u a).mpr ⟨ja, ua, an⟩)
    have hbm : b ∈ ofMask (wo (nb g u) (g.getD a 0)) := by
      refine (mem_ofB (wo_lt (nb_lt h u))).mpr ?_
      rw [tb_wo, (tb_nb g u b).mpr ⟨jb, ub, bn⟩]
      unfold joined at nab
      rw [nab]; rfl
    have hrl : ws.reverse.length = ws.length := List.length_reverse
    have zcon : Con g ws.reverse := con_iff fun i hi => by
      rw [hrl] at hi
      rw [getD_rev ws i (by omega), getD_rev ws (i + 1) hi]
      have := (H (ws.length - 1 - (i + 1) + 2) (ws.length - 1 - i + 2) (by omega) (by omega)).2.mpr (.inl (by omega))
      rw [at2, at2] at this
      rw [h.sym]; exact this
    have zhead : ∃ z0 rest, ws.reverse = z0 :: rest ∧ (2 ^ b).testBit z0 = true ∧ ∀ y ∈ rest, (oth g u).testBit y = true := by
      cases e : ws.reverse with
      | nil => rw [e] at hrl; simp at hrl; omega
      | cons z0 rest =>
        have e0 : z0 = b := by
          have := getD_rev ws 0 (by omega)
          rw [e] at this
          rw [← hb]
          exact this
        refine ⟨z0, rest, rfl, by rw [e0, tb_pow, decide_eq_true rfl], fun y hy => ?_⟩
        obtain ⟨i, hi, ey⟩ := mem_getD' hy
        have hl2 : rest.length + 1 = ws.length := by rw [← hrl, e]; rfl
        have : y = ws.getD (ws.length - 1 - (i + 1)) 0 := by
          rw [← getD_rev ws (i + 1) (by omega), e, List.getD_cons_succ, ey]
        rw [this]
        refine (tb_oth g u _).mpr ⟨⟨?_, ?_⟩, ?_⟩
        · have := W.least (ws.length - 1 - (i + 1) + 2) (by omega) (by simp; omega)
          rw [at2, at0] at this
          exact this
        · exact W.lt h _ (List.mem_cons_of_mem _ (List.mem_cons_of_mem _ (getD_mem' (by omega))))
        · have := (H 0 (ws.length - 1 - (i + 1) + 2) (by omega) (by omega)).2
          rw [at2, at0] at this
          cases q : joined g u (ws.getD (ws.length - 1 - (i + 1)) 0) with
          | false => rfl
          | true => have := this.mp q; omega
    have zlast : ∃ z, ws.reverse.getLast? = some z ∧ joined g a z = true := by
      refine ⟨ws.getD 0 0, ?_, ?_⟩
      · rw [List.getLast?_reverse]
        cases ws with
        | nil => simp at hw
        | cons x r => rfl
      · have := (H 1 2 (by omega) (by omega)).2.mpr (.inl rfl)
        rw [at1, at2 0] at this
        exact this
    have b32 : b < 32 := by have := h.len32; omega
    obtain ⟨r, e, l1, l2⟩ := bfs h 33 (2 ^ b) (oth g u) ws.reverse (pow_lt32 b32) (oth_lt h u) (by have := of_length (oth g u); omega) zhead zcon zlast
    have hc' : u :: a :: (back g a (2 ^ b :: r)).reverse ∈ allCircles g := mem_all.mpr ⟨u, a, b, r, by omega, ha, hbm, ab, e, rfl⟩
    have lc : (u :: a :: (back g a (2 ^ b :: r)).reverse).length = r.length + 3 := by simp [back_length]
    have m := min _ (all_written h hc')
    rw [lc, hlen] at m
    rw [hrl] at l1 l2
    have al := l2 (by omega)
    refine ⟨_, hc', by rw [lc, hlen]; omega, ?_⟩
    have := back_min h (lay_lays e) (pow_lt32 b32) (oth_lt h u) _ al zcon zlast
    rw [List.reverse_reverse] at this
    rcases this with q | q
    · exact .inl (by rw [q])
    · exact .inr (.inr ⟨rfl, .inr ⟨rfl, q⟩⟩)
end Gm

set_option linter.all false
namespace Gm
open Sa79

/-! ### the mask of a list -/
theorem sum_bits (p : Nat → Bool) : ∀ m, ((List.range m).map fun k => if p k = true then 2 ^ k else 0).sum < 2 ^ m ∧ ∀ i, (((List.range m).map fun k => if p k = true then 2 ^ k else 0).sum).testBit i = (decide (i < m) && p i)
  | 0 => ⟨by simp, fun i => by simp⟩
  | m + 1 => by
    obtain ⟨h1, h2⟩ := sum_bits p m
    rw [List.range_succ, List.map_append, List.sum_append]
    generalize ((List.range m).map fun k => if p k = true then 2 ^ k else 0).sum = S at h1 h2
    have e : ([m].map fun k => if p k = true then 2 ^ k else 0).sum = if p m = true then 2 ^ m else 0 := by simp
    rw [e]
    have hp : 2 ^ (m + 1) = 2 ^ m * 2 := Nat.pow_succ ..
    by_cases c : p m = true
    · rw [if_pos c]
      refine ⟨by omega, fun i => ?_⟩
      have : S + 2 ^ m = 2 ^ m * 1 + S := by omega
      rw [this, Nat.testBit_two_pow_mul_add _ h1]
      by_cases d : i < m
      · rw [if_pos d, h2, decide_eq_true d, decide_eq_true (show i < m + 1 by omega)]
      · rw [if_neg d]
        by_cases e : i = m
        · subst e
          rw [Nat.sub_self, decide_eq_true (show i < i + 1 by omega), c]
          rfl
        · rw [decide_eq_false (show ¬ i < m + 1 by omega), Bool.false_and]
          refine Nat.testBit_lt_two_pow ?_
          have : i - m ≠ 0 := by omega
          exact Nat.one_lt_two_pow this
    · rw [if_neg c]
      refine ⟨by omega, fun i => ?_⟩
      rw [Nat.add_zero, h2]
      by_cases d : i < m
      · rw [decide_eq_true d, decide_eq_true (show i < m + 1 by omega)]
      · rw [decide_eq_false d]
        by_cases e : i = m
        · subst e
          have c : p i = false := by simpa using c
          rw [c, Bool.and_false, Bool.and_false]
        · rw [decide_eq_false (show ¬ i < m + 1 by omega)]
theorem tb_mask (l : List Nat) (i : Nat) : (maskOf l).testBit i = (decide (i < 32) && l.contains i) := (sum_bits (fun k => l.contains k) 32).2 i
theorem mask_lt (l : List Nat) : maskOf l < 2 ^ 32 := (sum_bits (fun k => l.contains k) 32).1
theorem tb_mask_iff {l : List Nat} (hl : ∀ x ∈ l, x < 32) {i : Nat} : (maskOf l).testBit i = true ↔ i ∈ l := by
  rw [tb_mask, Bool.and_eq_true, decide_eq_true_eq, List.contains_iff_mem]
  exact ⟨fun h => h.2, fun h => ⟨hl i h, h⟩⟩

/-! ### Dirac: what has no circle has a point whose neighbours are a clique -/
inductive Reach (g : G) (O : Nat → Prop) (x : Nat) : Nat → Prop
  | refl : O x → Reach g O x x
  | step {y z : Nat} : Reach g O x y → joined g y z = true → O z → Reach g O x z
theorem Reach.ok {g : G} {O : Nat → Prop} {x y : Nat} (h : Reach g O x y) : O y := by
  cases h with
  | refl h => exact h
  | step _ _ h => exact h
theorem Reach.trans {g : G} {O : Nat → Prop} {x y z : Nat} (h : Reach g O x y) (h' : Reach g O y z) : Reach g O x z := by
  induction h' with
  | refl _ => exact h
  | step _ j o ih => exact ih.step j o
theorem Reach.start {g : G} {O : Nat → Prop} {x y : Nat} (h : Reach g O x y) : O x := by
  induction h with
  | refl h => exact h
  | step _ _ _ ih => exact ih
theorem Reach.symm {g : G} (hg : Gr g) {O : Nat → Prop} {x y : Nat} (h : Reach g O x y) : Reach g O y x := by
  induction h with
  | refl h => exact .refl h
  | @step y z q j o ih =>
    refine Reach.trans (y := y) (.step (.refl o) (by rw [hg.sym]; exact j) q.ok) ih
/-- a way back to the start, within what is reached -/
theorem Reach.path {g : G} (hg : Gr g) {O : Nat → Prop} {x y : Nat} (h : Reach g O x y) : ∃ p, Con g (y :: p) ∧ (y :: p).getLast? = some x ∧ ∀ z ∈ y :: p, Reach g O x z := by
  induction h with
  | refl h => exact ⟨[], trivial, rfl, fun z hz => by rw [List.mem_singleton.mp hz]; exact .refl h⟩
  | @step y z q j o ih =>
    obtain ⟨p, h1, h2, h3⟩ := ih
    refine ⟨y :: p, ⟨by rw [hg.sym]; exact j, h1⟩, ?_, fun w hw => ?_⟩
    · rw [← h2]; exact getLast_app (pre := [z])
    · rcases List.mem_cons.mp hw with e | e
      · rw [e]; exact q.step j o
      · exact h3 w e
theorem simple_iff {g : G} {l : List Nat} {v : Nat} : simple g l v = true ↔ ∀ a ∈ l, joined g v a = true → ∀ b ∈ l, joined g v b = true → a ≠ b → joined g a b = true := by
  unfold simple
  rw [clique_iff]
  simp only [List.mem_filter]
  exact ⟨fun h a ha ja b hb jb ne => h a ⟨ha, ja⟩ b ⟨hb, jb⟩ ne, fun h a ha b hb ne => h a ha.1 ha.2 b hb.1 hb.2 ne⟩
open Classical in
theorem dirac {g : G} (hg : Gr g) (nh : ∀ k f, ¬ Hole g k f) : ∀ (k : Nat) (l : List Nat), l.length ≤ k → (∀ x ∈ l, x < g.length) → ∀ v ∈ l, (∃ x ∈ l, x ≠ v ∧ joined g v x = false) → ∃ z ∈ l, z ≠ v ∧ joined g v z = false ∧ simple g l z = true
  | 0, l, hk, _, v, hv, _ => by
    have : l = [] := List.eq_nil_of_length_eq_zero (by omega)
    rw [this] at hv
    cases hv
  | k + 1, l, hk, hlt, v, hv, ⟨x, hx, nx, jx⟩ => by
    let O : Nat → Prop := fun y => y ∈ l ∧ y ≠ v ∧ joined g v y = false
    have Ox : O x := ⟨hx, nx, jx⟩
    let C : Nat → Prop := fun y => Reach g O x y
    let S : Nat → Prop := fun y => y ∈ l ∧ ¬ C y ∧ ∃ c, C c ∧ joined g c y = true
    have hC : ∀ c, C c → c ∈ l ∧ c ≠ v ∧ joined g v c = false := fun c h => Reach.ok h
    -- 1
    have S1 : ∀ y, S y → joined g v y = true := by
      rintro y ⟨hy, nc, c, hc, j⟩
      cases q : joined g v y with
      | true => rfl
      | false =>
        exfalso
        have ne : y ≠ v := by
          rintro rfl
          have := (hC c hc).2.2
          rw [hg.sym, this] at j
          cases j
        exact nc (Reach.step hc j ⟨hy, ne, q⟩)
    -- 2
    have S2 : ∀ s t, S s → S t → s ≠ t → joined g s t = true := by
      intro s t hs ht ne
      cases q : joined g s t with
      | true => rfl
      | false =>
        exfalso
        obtain ⟨sl, snc, c1, hc1, j1⟩ := hs
        obtain ⟨tl, tnc, c2, hc2, j2⟩ := ht
        have R12 : Reach g O c1 c2 := (Reach.symm hg hc1).trans hc2
        obtain ⟨p, p1, p2, p3⟩ := R12.path hg
        have pC : ∀ z ∈ c2 :: p, C z := fun z hz => Reach.trans hc1 (p3 z hz)
        let inner := maskOf (l.filter fun y => decide (C y))
        have hin : ∀ i, inner.testBit i = true ↔ C i := fun i => by
          rw [tb_mask_iff (fun x hx => Nat.lt_of_lt_of_le (hlt x (List.mem_filter.mp hx).1) hg.len32), List.mem_filter, decide_eq_true_eq]
          exact ⟨fun h => h.2, fun h => ⟨(hC i h).1, h⟩⟩
        have t32 : t < 32 := Nat.lt_of_lt_of_le (hlt t tl) hg.len32
        obtain ⟨r, e, _, _⟩ := bfs hg (a := s) 33 (2 ^ t) inner (t :: c2 :: p) (pow_lt32 t32) (mask_lt _) (by have := of_length inner; omega)
          ⟨t, c2 :: p, rfl, by rw [tb_pow, decide_eq_true rfl], fun y hy => (hin y).mpr (pC y hy)⟩ ⟨by rw [hg.sym]; exact j2, p1⟩
          ⟨c1, by rw [← p2]; exact getLast_app (pre := [t]), by rw [hg.sym]; exact j1⟩
        have vs := S1 s ⟨sl, snc, c1, hc1, j1⟩
        have vt := S1 t ⟨tl, tnc, c2, hc2, j2⟩
        exact nh _ _ (way_hole hg (mask_lt _) vs vt q ne (fun y hy => by
          have := hC y ((hin y).mp hy)
          exact ⟨this.2.2, fun z => this.2.1 z.symm⟩) e).1
    let H := l.filter fun y => decide (C y ∨ S y)
    have memH : ∀ y, y ∈ H ↔ C y ∨ S y := fun y => by
      show y ∈ l.filter _ ↔ _
      rw [List.mem_filter, decide_eq_true_eq]
      refine ⟨fun h => h.2, fun h => ⟨?_, h⟩⟩
      rcases h with h | h
      · exact (hC y h).1
      · exact h.1
    have vH : v ∉ H := fun h => by
      rcases (memH v).mp h with z | z
      · exact (hC v z).2.1 rfl
      · have := S1 v z
        rw [hg.irr] at this
        cases this
    have Hlen : H.length ≤ k := by
      have : H.length < l.length := List.length_filter_lt_length_iff_exists.mpr ⟨v, hv, fun z => vH ((memH v).mpr (of_decide_eq_true z))⟩
      omega
    have Hlt : ∀ y ∈ H, y < g.length := fun y hy => hlt y (List.mem_filter.mp hy).1
    -- 4
    have up : ∀ c, C c → simple g H c = true → simple g l c = true := by
      intro c hc hs
      rw [simple_iff] at hs ⊢
      have inH : ∀ y ∈ l, joined g c y = true → y ∈ H := fun y hy j => by
        refine (memH y).mpr ?_
        by_cases q : C y
        · exact .inl q
        · exact .inr ⟨hy, q, c, hc, j⟩
      intro a ha ja b hb jb ne
      exact hs a (inH a ha ja) ja b (inH b hb jb) jb ne
    -- 5
    have key : ∃ z, C z ∧ simple g H z = true := by
      by_cases c1 : ∃ s, S s ∧ ∃ y ∈ H, y ≠ s ∧ joined g s y = false
      · obtain ⟨s, hs, y, hy, ny, jy⟩ := c1
        obtain ⟨z, hz, nz, jz, sz⟩ := dirac hg nh k H Hlen Hlt s ((memH s).mpr (.inr hs)) ⟨y, hy, ny, jy⟩
        refine ⟨z, ?_, sz⟩
        rcases (memH z).mp hz with q | q
        · exact q
        · have := S2 s z hs q (fun e => nz e.symm)
          rw [jz] at this
          cases this
      · by_cases c2 : ∃ c, C c ∧ ∃ y ∈ H, y ≠ c ∧ joined g c y = false
        · obtain ⟨c, hc, y, hy, ny, jy⟩ := c2
          obtain ⟨z, hz, nz, jz, sz⟩ := dirac hg nh k H Hlen Hlt c ((memH c).mpr (.inl hc)) ⟨y, hy, ny, jy⟩
          refine ⟨z, ?_, sz⟩
          rcases (memH z).mp hz with q | q
          · exact q
          · exact absurd ⟨z, q, c, (memH c).mpr (.inl hc), fun e => nz e.symm, by rw [hg.sym]; exact jz⟩ c1
        · refine ⟨x, Reach.refl Ox, ?_⟩
          rw [simple_iff]
          intro a ha _ b hb _ ne
          cases q : joined g a b with
          | true => rfl
          | false =>
            rcases (memH a).mp ha with z | z
            · exact absurd ⟨a, z, b, hb, fun e => ne e.symm, q⟩ c2
            · exact absurd ⟨a, z, b, hb, fun e => ne e.symm, q⟩ c1
    obtain ⟨z, hz, sz⟩ := key
    have := hC z hz
    exact ⟨z, this.1, this.2.1, this.2.2, up z hz sz⟩
theorem stuck_of {g : G} : ∀ (f : Nat) (l : List Nat), l.length < f → l.Nodup → takenFrom g f l = none → ∃ l', l' ≠ [] ∧ (∀ x ∈ l', x ∈ l) ∧ ∀ v ∈ l', simple g l' v = false
  | 0, l, h, _, _ => absurd h (Nat.not_lt_zero _)
  | f + 1, l, h, nd, e => by
    by_cases hl : l = []
    · rw [hl, taken_nil] at e; cases e
    · cases q : l.find? (simple g l) with
      | none =>
        refine ⟨l, hl, fun x hx => hx, fun v hv => ?_⟩
        have := List.find?_eq_none.mp q v hv
        simpa using this
      | some v =>
        rw [taken_some q] at e
        have hv := List.mem_of_find?_eq_some q
        have := length_ne nd hv
        obtain ⟨l', h1, h2, h3⟩ := stuck_of f (l.filter fun u => u != v) (by omega) (nd.filter _) (by
          cases e2 : takenFrom g f (l.filter fun u => u != v) with
          | none => rfl
          | some r => rw [e2] at e; cases e)
        exact ⟨l', h1, fun x hx => (List.mem_filter.mp (h2 x hx)).1, h3⟩
/-- what can't be taken away has a circle -/
theorem has_circle {g : G} (hg : Gr g) (e : order g = none) : ∃ c, Written g c := by
  unfold order at e
  obtain ⟨l, h1, h2, h3⟩ := stuck_of (g.length + 1) (points g) (by rw [len_points]; omega) List.nodup_range e
  have hlt : ∀ x ∈ l, x < g.length := fun x hx => List.mem_range.mp (h2 x hx)
  have : ¬ ∀ k f, ¬ Hole g k f := by
    intro nh
    by_cases c : ∃ v ∈ l, ∃ x ∈ l, x ≠ v ∧ joined g v x = false
    · obtain ⟨v, hv, hx⟩ := c
      obtain ⟨z, hz, _, _, sz⟩ := dirac hg nh l.length l (Nat.le_refl _) hlt v hv hx
      rw [h3 z hz] at sz
      cases sz
    · cases l with
      | nil => exact h1 rfl
      | cons v r =>
        have sv : simple g (v :: r) v = true := by
          rw [simple_iff]
          intro a ha _ b hb _ ne
          cases q : joined g a b with
          | true => rfl
          | false => exact absurd ⟨a, ha, b, hb, fun e => ne e.symm, q⟩ c
        rw [h3 v List.mem_cons_self] at sv
        cases sv
  by_cases c : ∃ k f, Hole g k f
  · obtain ⟨k, f, H⟩ := c
    exact written_of hg H
  · exact absurd (fun k f H => c ⟨k, f, H⟩) this
/-- a shortest one -/
theorem has_shortest {g : G} (hg : Gr g) (e : order g = none) : ∃ c, Written g c ∧ ∀ c', Written g c' → c.length ≤ c'.length := by
  obtain ⟨c, W⟩ := has_circle hg e
  have : ∀ n, ∀ c, Written g c → c.length = n → ∃ c, Written g c ∧ ∀ c', Written g c' → c.length ≤ c'.length := by
    intro n
    induction n using Nat.strongRecOn with
    | _ n ih =>
      intro c W e
      by_cases q : ∃ c', Written g c' ∧ c'.length < n
      · obtain ⟨c', W', h⟩ := q
        exact ih c'.length h c' W' rfl
      · refine ⟨c, W, fun c' W' => ?_⟩
        rcases Nat.lt_or_ge c'.length n with z | z
        · exact absurd ⟨c', W', z⟩ q
        · omega
  exact this _ c W rfl
theorem all_ne {g : G} (hg : Gr g) (e : order g = none) : allCircles g ≠ [] := by
  obtain ⟨c, W, m⟩ := has_shortest hg e
  obtain ⟨c', h, _⟩ := found hg W m
  intro z
  rw [z] at h
  cases h
/-- the program's pick is the specification's -/
theorem pick_circle {g : G} (hg : Gr g) (e : order g = none) {r : List Nat} (hr : r ∈ allCircles g) (h1 : ∀ c ∈ allCircles g, r.length ≤ c.length) (h2 : ∀ c ∈ allCircles g, c.length = r.length → Le r c) : circle g = some r := by
  have W := all_written hg hr
  obtain ⟨c0, W0, m0⟩ := has_shortest hg e
  obtain ⟨c1, hc1, e1, _⟩ := found hg W0 m0
  have hmin : ∀ c, Written g c → r.length ≤ c.length := fun c Wc => by
    have := h1 c1 hc1
    have := m0 c Wc
    omega
  refine circle_eq hg W fun c Wc => ⟨hmin c Wc, fun q => ?_⟩
  obtain ⟨c2, hc2, e2, l2⟩ := found hg Wc (fun c' W' => by have := hmin c' W'; omega)
  exact (h2 c2 hc2 (by omega)).trans l2
end Gm

set_option linter.all false
namespace Gm
open Sa79

/-! ### an order in which all go -/
def Peo (g : G) : List Nat → Prop
  | [] => True
  | v :: r => isClique g (r.filter fun u => joined g v u) = true ∧ Peo g r
theorem taken_ok {g : G} (hg : Gr g) : ∀ (f : Nat) {l o : List Nat}, l.Nodup → takenFrom g f l = some o → o.Perm l ∧ Peo g o
  | 0, l, o, nd, h => by
    cases l with
    | nil => rw [taken_nil] at h; cases h; exact ⟨.nil, trivial⟩
    | cons a r => cases h
  | f + 1, l, o, nd, h => by
    cases l with
    | nil => rw [taken_nil] at h; cases h; exact ⟨.nil, trivial⟩
    | cons a r =>
      cases q : (a :: r).find? (simple g (a :: r)) with
      | none => rw [taken_none (by simp) q] at h; cases h
      | some v =>
        rw [taken_some q] at h
        cases e : takenFrom g f ((a :: r).filter fun u => u != v) with
        | none => rw [e] at h; cases h
        | some o' =>
          rw [e] at h
          cases h
          obtain ⟨p, po⟩ := taken_ok hg f (nd.filter _) e
          have hv := List.mem_of_find?_eq_some q
          have hs := List.find?_some q
          generalize a :: r = l at *
          have mem : ∀ x, x ∈ o' ↔ x ∈ l ∧ x ≠ v := fun x => by
            rw [p.mem_iff, List.mem_filter]
            simp
          refine ⟨?_, ?_, po⟩
          · refine (List.perm_ext_iff_of_nodup ?_ nd).mpr fun x => ?_
            · refine List.nodup_cons.mpr ⟨fun z => ((mem v).mp z).2 rfl, (p.nodup_iff).mpr (nd.filter _)⟩
            · rw [List.mem_cons, mem]
              constructor
              · rintro (rfl | z)
                · exact hv
                · exact z.1
              · intro z
                by_cases c : x = v
                · exact .inl c
                · exact .inr ⟨z, c⟩
          · rw [clique_iff]
            intro x hx y hy ne
            rw [simple_iff] at hs
            rw [List.mem_filter, mem] at hx hy
            exact hs x hx.1.1 hx.2 y hy.1.1 hy.2 ne
theorem order_ok {g : G} (hg : Gr g) {o : List Nat} (h : order g = some o) : o.Perm (points g) ∧ Peo g o := taken_ok hg _ List.nodup_range h
theorem order_mem {g : G} (hg : Gr g) {o : List Nat} (h : order g = some o) (x : Nat) : x ∈ o ↔ x < g.length := by
  rw [(order_ok hg h).1.mem_iff]; exact List.mem_range
theorem order_nodup {g : G} (hg : Gr g) {o : List Nat} (h : order g = some o) : o.Nodup := ((order_ok hg h).1.nodup_iff).mpr List.nodup_range

/-! ### joined to all -/
def ja (g : G) (m : Nat) : Nat := (ofMask m).foldl (fun a u => a &&& g.getD u 0) (2 ^ g.length - 1)
theorem foldl_ja {g : G} {i : Nat} : ∀ (l : List Nat) (acc : Nat), (l.foldl (fun a u => a &&& g.getD u 0) acc).testBit i = true ↔ acc.testBit i = true ∧ ∀ u ∈ l, joined g u i = true
  | [], acc => by simp
  | x :: l, acc => by
    rw [List.foldl_cons, foldl_ja l, Nat.testBit_and, Bool.and_eq_true]
    simp only [List.mem_cons, forall_eq_or_imp]
    rw [and_assoc]
    rfl
theorem tb_ja {g : G} {m i : Nat} : (ja g m).testBit i = true ↔ i < g.length ∧ ∀ u ∈ ofMask m, joined g u i = true := by
  unfold ja
  rw [foldl_ja, Nat.testBit_two_pow_sub_one, decide_eq_true_eq]
theorem ja_zero {g : G} {m : Nat} : ja g m = 0 ↔ ¬ ∃ i, i < g.length ∧ ∀ u ∈ ofMask m, joined g u i = true := by
  constructor
  · rintro e ⟨i, h⟩
    have := tb_ja.mpr h
    rw [e, Nat.zero_testBit] at this
    cases this
  · intro h
    refine zero_of fun i => ?_
    cases q : (ja g m).testBit i with
    | false => rfl
    | true => exact absurd ⟨i, tb_ja.mp q⟩ h

/-! ### rising -/
def ins (m : List Nat) (x : Nat) : List Nat := (m.filter fun y => decide (y < x)) ++ (x :: m.filter fun y => decide (x < y))
theorem ins_sorted {m : List Nat} (x : Nat) (h : m.Pairwise (· < ·)) : (ins m x).Pairwise (· < ·) := by
  unfold ins
  rw [List.pairwise_append, List.pairwise_cons]
  refine ⟨h.filter _, ⟨fun y hy => of_decide_eq_true (List.mem_filter.mp hy).2, h.filter _⟩, fun a ha b hb => ?_⟩
  have h1 := of_decide_eq_true (List.mem_filter.mp ha).2
  rcases List.mem_cons.mp hb with z | z
  · rw [z]; exact h1
  · have h2 := of_decide_eq_true (List.mem_filter.mp z).2
    omega
theorem mem_ins {m : List Nat} {x y : Nat} : y ∈ ins m x ↔ y = x ∨ y ∈ m := by
  unfold ins
  rw [List.mem_append, List.mem_cons, List.mem_filter, List.mem_filter, decide_eq_true_eq, decide_eq_true_eq]
  constructor
  · rintro (h | h | h)
    · exact .inr h.1
    · exact .inl h
    · exact .inr h.1
  · rintro (h | h)
    · exact .inr (.inl h)
    · rcases Nat.lt_trichotomy y x with z | z | z
      · exact .inl ⟨h, z⟩
      · exact .inr (.inl z)
      · exact .inr (.inr ⟨h, z⟩)
theorem foldl_ins : ∀ (l m : List Nat), m.Pairwise (· < ·) → (l.foldl ins m).Pairwise (· < ·) ∧ ∀ y, y ∈ l.foldl ins m ↔ y ∈ m ∨ y ∈ l
  | [], m, h => ⟨h, fun y => by simp⟩
  | x :: l, m, h => by
    rw [List.foldl_cons]
    obtain ⟨h1, h2⟩ := foldl_ins l (ins m x) (ins_sorted x h)
    refine ⟨h1, fun y => ?_⟩
    rw [h2, mem_ins, List.mem_cons]
    constructor
    · rintro ((h | h) | h)
      · exact .inr (.inl h)
      · exact .inl h
      · exact .inr (.inr h)
    · rintro (h | h | h)
      · exact .inl (.inr h)
      · exact .inl (.inl h)
      · exact .inr h
theorem rising_sorted (l : List Nat) : (rising l).Pairwise (· < ·) := (foldl_ins l [] .nil).1
theorem mem_rising {l : List Nat} {y : Nat} : y ∈ rising l ↔ y ∈ l := by
  have := (foldl_ins l [] .nil).2 y
  show y ∈ l.foldl ins [] ↔ _
  rw [this]
  simp

/-! ### greatest cliques -/
theorem later_sub {g : G} : ∀ {o : List Nat} {c : List Nat}, c ∈ withLater g o → ∀ x ∈ c, x ∈ o
  | [], _, h, _, _ => by cases h
  | v :: r, c, h, x, hx => by
    rcases List.mem_cons.mp h with z | z
    · rw [z] at hx
      rcases List.mem_cons.mp hx with q | q
      · rw [q]; exact List.mem_cons_self
      · exact List.mem_cons_of_mem _ (List.mem_filter.mp q).1
    · exact List.mem_cons_of_mem _ (later_sub z x hx)
theorem later_clique {g : G} (hg : Gr g) : ∀ {o : List Nat}, Peo g o → ∀ {c : List Nat}, c ∈ withLater g o → ∀ x ∈ c, ∀ y ∈ c, x ≠ y → joined g x y = true
  | [], _, _, h, _, _, _, _, _ => by cases h
  | v :: r, ⟨p, pr⟩, c, h, x, hx, y, hy, ne => by
    rcases List.mem_cons.mp h with z | z
    · rw [z] at hx hy
      rcases List.mem_cons.mp hx with q | q <;> rcases List.mem_cons.mp hy with q' | q'
      · exact absurd (q.trans q'.symm) ne
      · rw [q]; exact (List.mem_filter.mp q').2
      · rw [q', hg.sym]; exact (List.mem_filter.mp q).2
      · exact clique_iff.mp p x q y q' ne
    · exact later_clique hg pr z x hx y hy ne
/-- a clique of the order's points stands within one of them -/
theorem later_has {g : G} (hg : Gr g) : ∀ {o K : List Nat}, K ≠ [] → (∀ x ∈ K, x ∈ o) → (∀ x ∈ K, ∀ y ∈ K, x ≠ y → joined g x y = true) → ∃ c ∈ withLater g o, ∀ x ∈ K, x ∈ c
  | [], K, hK, h, _ => by
    cases K with
    | nil => exact absurd rfl hK
    | cons a r => exact nomatch h a List.mem_cons_self
  | v :: r, K, hK, h, cl => by
    by_cases c : v ∈ K
    · refine ⟨_, List.mem_cons_self, fun x hx => ?_⟩
      by_cases e : x = v
      · rw [e]; exact List.mem_cons_self
      · refine List.mem_cons_of_mem _ (List.mem_filter.mpr ⟨?_, cl v c x hx (fun z => e z.symm)⟩)
        rcases List.mem_cons.mp (h x hx) with z | z
        · exact absurd z e
        · exact z
    · obtain ⟨c', h1, h2⟩ := later_has hg (o := r) hK (fun x hx => by
        rcases List.mem_cons.mp (h x hx) with z | z
        · exact absurd (z ▸ hx) c
        · exact z) cl
      exact ⟨c', List.mem_cons_of_mem _ h1, h2⟩
theorem later_ne {g : G} : ∀ {o : List Nat} {c : List Nat}, c ∈ withLater g o → c ≠ []
  | [], _, h => by cases h
  | v :: r, c, h => by
    rcases List.mem_cons.mp h with z | z
    · rw [z]; simp
    · exact later_ne z
theorem mask_nodup {g : G} : ∀ {o : List Nat}, o.Nodup → (∀ x ∈ o, x < 32) → ((withLater g o).map maskOf).Nodup
  | [], _, _ => List.nodup_nil
  | v :: r, nd, h32 => by
    obtain ⟨n1, n2⟩ := List.nodup_cons.mp nd
    show (maskOf (v :: r.filter fun u => joined g v u) :: (withLater g r).map maskOf).Nodup
    refine List.nodup_cons.mpr ⟨fun hm => ?_, mask_nodup n2 fun x hx => h32 x (List.mem_cons_of_mem _ hx)⟩
    obtain ⟨c, hc, e⟩ := List.mem_map.mp hm
    have hr : ∀ x ∈ c, x ∈ r := later_sub hc
    have hv : (maskOf (v :: r.filter fun u => joined g v u)).testBit v = true := by
      rw [tb_mask, decide_eq_true (h32 v List.mem_cons_self)]
      simp
    rw [← e, tb_mask_iff (fun x hx => h32 x (List.mem_cons_of_mem _ (hr x hx)))] at hv
    exact n1 (hr v hv)
theorem within_iff {a b : Nat} : within a b = true ↔ ∀ i, a.testBit i = true → b.testBit i = true := by
  unfold within
  rw [beq_iff_eq]
  constructor
  · intro e i h
    rw [← e, Nat.testBit_and, Bool.and_eq_true] at h
    exact h.2
  · intro h
    refine ext fun i => ?_
    rw [Nat.testBit_and]
    cases q : a.testBit i with
    | false => rfl
    | true => rw [h i q]; rfl
/-- of the candidates those that no point can be put to are those that stand in no other -/
theorem greatest_iff {g : G} (hg : Gr g) {o : List Nat} (h : order g = some o) {a : Nat} (ha : a ∈ (withLater g o).map maskOf) :
    ja g a = 0 ↔ ∀ b ∈ (withLater g o).map maskOf, a = b ∨ within a b = false := by
  have h32 : ∀ x ∈ o, x < 32 := fun x hx => Nat.lt_of_lt_of_le ((order_mem hg h x).mp hx) hg.len32
  have po := (order_ok hg h).2
  obtain ⟨ca, hca, rfl⟩ := List.mem_map.mp ha
  have sub : ∀ {c}, c ∈ withLater g o → ∀ x ∈ c, x < 32 := fun {c} hc x hx => h32 x (later_sub hc x hx)
  have mm : ∀ {c}, c ∈ withLater g o → ∀ {x}, x ∈ ofMask (maskOf c) ↔ x ∈ c := fun {c} hc {x} => by
    rw [mem_ofB (mask_lt _), tb_mask_iff (sub hc)]
  rw [ja_zero]
  constructor
  · intro hn b hb
    obtain ⟨cb, hcb, rfl⟩ := List.mem_map.mp hb
    by_cases e : maskOf ca = maskOf cb
    · exact .inl e
    · refine .inr ?_
      cases q : within (maskOf ca) (maskOf cb) with
      | false => rfl
      | true =>
        exfalso
        rw [within_iff] at q
        have q : ∀ x ∈ ca, x ∈ cb := fun x hx => (tb_mask_iff (sub hcb)).mp (q x ((tb_mask_iff (sub hca)).mpr hx))
        by_cases c : ∃ x ∈ cb, x ∉ ca
        · obtain ⟨x, hx, nx⟩ := c
          refine hn ⟨x, (order_mem hg h x).mp (later_sub hcb x hx), fun u hu => ?_⟩
          rw [mm hca] at hu
          refine later_clique hg po hcb u (q u hu) x hx ?_
          rintro rfl
          exact nx hu
        · refine e (ext fun i => ?_)
          rw [Bool.eq_iff_iff, tb_mask_iff (sub hca), tb_mask_iff (sub hcb)]
          refine ⟨q i, fun hi => ?_⟩
          by_cases z : i ∈ ca
          · exact z
          · exact absurd ⟨i, hi, z⟩ c
  · rintro hq ⟨x, hx, hj⟩
    have hj : ∀ u ∈ ca, joined g u x = true := fun u hu => hj u ((mm hca).mpr hu)
    have nx : x ∉ ca := fun z => by
      have := hj x z
      rw [hg.irr] at this
      cases this
    obtain ⟨cb, hcb, hs⟩ := later_has hg (o := o) (K := x :: ca) (by simp) (fun y hy => by
        rcases List.mem_cons.mp hy with z | z
        · rw [z]; exact (order_mem hg h x).mpr hx
        · exact later_sub hca y z) (fun y hy z hz ne => by
        rcases List.mem_cons.mp hy with p | p <;> rcases List.mem_cons.mp hz with q | q
        · exact absurd (p.trans q.symm) ne
        · rw [p, hg.sym]; exact hj z q
        · rw [q]; exact hj y p
        · exact later_clique hg po hca y p z q ne)
    rcases hq (maskOf cb) (List.mem_map.mpr ⟨cb, hcb, rfl⟩) with z | z
    · have : (maskOf cb).testBit x = true := (tb_mask_iff (sub hcb)).mpr (hs x List.mem_cons_self)
      rw [← z, tb_mask_iff (sub hca)] at this
      exact nx this
    · have : within (maskOf ca) (maskOf cb) = true := by
        rw [within_iff]
        intro i hi
        exact (tb_mask_iff (sub hcb)).mpr (hs i (List.mem_cons_of_mem _ ((tb_mask_iff (sub hca)).mp hi)))
      rw [this] at z
      cases z
/-- the program's cliques, before they are sorted -/
def found_ (g : G) (o : List Nat) : List Nat := ((withLater g o).map maskOf).filter fun m => decide (ja g m = 0)
theorem cliques_eq {g : G} (hg : Gr g) {o : List Nat} (h : order g = some o) {l : List Nat} (p : l.Perm (found_ g o)) (s : l.Pairwise (· ≤ ·)) : l = cliques g o := by
  have h32 : ∀ x ∈ o, x < 32 := fun x hx => Nat.lt_of_lt_of_le ((order_mem hg h x).mp hx) hg.len32
  have nd : (found_ g o).Nodup := (mask_nodup (order_nodup hg h) h32).filter _
  have nl : l.Nodup := (p.nodup_iff).mpr nd
  have sl : l.Pairwise (· < ·) := List.Pairwise.imp₂ (fun a b h1 h2 => Nat.lt_of_le_of_ne h1 h2) s (List.nodup_iff_pairwise_ne.mp nl)
  unfold cliques
  refine sorted_ext sl ((rising_sorted _).filter _) fun a => ?_
  rw [p.mem_iff, List.mem_filter, mem_rising]
  unfold found_
  rw [List.mem_filter, decide_eq_true_eq]
  refine and_congr_right fun ha => ?_
  rw [greatest_iff hg h ha, List.all_eq_true]
  constructor
  · intro q b hb
    rw [mem_rising] at hb
    rw [Bool.or_eq_true, beq_iff_eq, Bool.not_eq_true']
    exact q b hb
  · intro q b hb
    have := q b (mem_rising.mpr hb)
    rw [Bool.or_eq_true, beq_iff_eq, Bool.not_eq_true'] at this
    exact this
/-- the candidate as the program makes it -/
theorem cand_mask {g : G} (hg : Gr g) {v left : Nat} {r : List Nat} (hv : v < 32) (hl : ∀ i, left.testBit i = true ↔ i ∈ v :: r) (h32 : ∀ x ∈ r, x < 32) : (g.getD v 0 &&& left) ||| 2 ^ v = maskOf (v :: r.filter fun u => joined g v u) := by
  refine ext fun i => ?_
  rw [Bool.eq_iff_iff, Nat.testBit_or, Bool.or_eq_true, Nat.testBit_and, Bool.and_eq_true, tb_pow, decide_eq_true_eq, hl, tb_mask_iff (fun x hx => by
    rcases List.mem_cons.mp hx with z | z
    · rw [z]; exact hv
    · exact h32 x (List.mem_filter.mp z).1), List.mem_cons, List.mem_cons, List.mem_filter]
  constructor
  · rintro (⟨h1, h2 | h2⟩ | h)
    · exact .inl h2
    · exact .inr ⟨h2, h1⟩
    · exact .inl h.symm
  · rintro (h | h)
    · exact .inr h.symm
    · exact .inl ⟨h.2, .inr h.1⟩
end Gm

set_option linter.all false
namespace Gm
open Sa79

/-! ### what ways join -/
inductive Cn (t : List (Nat × Nat)) (x : Nat) : Nat → Prop
  | refl : Cn t x x
  | fw {y z : Nat} : Cn t x y → (y, z) ∈ t → Cn t x z
  | bw {y z : Nat} : Cn t x y → (z, y) ∈ t → Cn t x z
theorem Cn.trans {t : List (Nat × Nat)} {x y z : Nat} (h : Cn t x y) (h' : Cn t y z) : Cn t x z := by
  induction h' with
  | refl => exact h
  | fw _ m ih => exact ih.fw m
  | bw _ m ih => exact ih.bw m
theorem Cn.symm {t : List (Nat × Nat)} {x y : Nat} (h : Cn t x y) : Cn t y x := by
  induction h with
  | refl => exact .refl
  | fw _ m ih => exact Cn.trans (.bw .refl m) ih
  | bw _ m ih => exact Cn.trans (.fw .refl m) ih
theorem Cn.mono {t t' : List (Nat × Nat)} (s : ∀ w ∈ t, w ∈ t') {x y : Nat} (h : Cn t x y) : Cn t' x y := by
  induction h with
  | refl => exact .refl
  | fw _ m ih => exact ih.fw (s _ m)
  | bw _ m ih => exact ih.bw (s _ m)
theorem cn_nil {x y : Nat} : Cn [] x y ↔ x = y := by
  constructor
  · intro h
    induction h with
    | refl => rfl
    | fw _ m => cases m
    | bw _ m => cases m
  · rintro rfl; exact .refl
theorem cn_add {t : List (Nat × Nat)} {i j x y : Nat} : Cn (t ++ [(i, j)]) x y ↔ Cn t x y ∨ (Cn t x i ∧ Cn t j y) ∨ (Cn t x j ∧ Cn t i y) := by
  constructor
  · intro h
    induction h with
    | refl => exact .inl .refl
    | @fw y z _ m ih =>
      rcases List.mem_append.mp m with q | q
      · rcases ih with p | ⟨p, p'⟩ | ⟨p, p'⟩
        · exact .inl (p.fw q)
        · exact .inr (.inl ⟨p, p'.fw q⟩)
        · exact .inr (.inr ⟨p, p'.fw q⟩)
      · have e := List.mem_singleton.mp q
        cases e
        rcases ih with p | ⟨p, p'⟩ | ⟨p, p'⟩
        · exact .inr (.inl ⟨p, .refl⟩)
        · exact .inr (.inl ⟨p, .refl⟩)
        · exact .inl p
    | @bw y z _ m ih =>
      rcases List.mem_append.mp m with q | q
      · rcases ih with p | ⟨p, p'⟩ | ⟨p, p'⟩
        · exact .inl (p.bw q)
        · exact .inr (.inl ⟨p, p'.bw q⟩)
        · exact .inr (.inr ⟨p, p'.bw q⟩)
      · have e := List.mem_singleton.mp q
        cases e
        rcases ih with p | ⟨p, p'⟩ | ⟨p, p'⟩
        · exact .inr (.inr ⟨p, .refl⟩)
        · exact .inl p
        · exact .inr (.inr ⟨p, .refl⟩)
  · have up : ∀ {x y}, Cn t x y → Cn (t ++ [(i, j)]) x y := fun h => h.mono fun w hw => List.mem_append_left _ hw
    have m : (i, j) ∈ t ++ [(i, j)] := List.mem_append_right _ (List.mem_singleton.mpr rfl)
    rintro (p | ⟨p, p'⟩ | ⟨p, p'⟩)
    · exact up p
    · exact ((up p).fw m).trans (up p')
    · exact ((up p).bw m).trans (up p')

/-! ### the specification's walk finds what ways join -/
theorem nodup_erase : ∀ (n : Nat) (l : List Nat), l.length ≤ n → l.eraseDups.Nodup
  | _, [], _ => by simp
  | 0, _ :: _, h => by simp at h
  | n + 1, a :: l, h => by
    rw [List.eraseDups_cons]
    refine List.nodup_cons.mpr ⟨fun z => ?_, nodup_erase n _ ?_⟩
    · rw [List.mem_eraseDups, List.mem_filter] at z
      simp at z
    · have := List.length_filter_le (fun b => !b == a) l
      simp only [List.length_cons] at h
      omega
def news (ways : List (Nat × Nat)) (l : List Nat) : List Nat := (ways.filterMap fun w => if l.contains w.1 = true ∧ l.contains w.2 = false then some w.2 else if l.contains w.2 = true ∧ l.contains w.1 = false then some w.1 else none).eraseDups
theorem near_succ (ways : List (Nat × Nat)) (f : Nat) (l : List Nat) : near ways (f + 1) l = near ways f (l ++ news ways l) := rfl
theorem mem_news {ways : List (Nat × Nat)} {l : List Nat} {z : Nat} : z ∈ news ways l ↔ z ∉ l ∧ ∃ y ∈ l, (y, z) ∈ ways ∨ (z, y) ∈ ways := by
  unfold news
  rw [List.mem_eraseDups, List.mem_filterMap]
  have ct : ∀ x, l.contains x = true ↔ x ∈ l := fun x => List.contains_iff_mem
  have cf : ∀ x, l.contains x = false ↔ x ∉ l := fun x => by
    rw [← ct]
    cases l.contains x <;> simp
  constructor
  · rintro ⟨⟨a, b⟩, hm, h⟩
    simp only [ct, cf] at h
    by_cases c1 : a ∈ l ∧ b ∉ l
    · rw [if_pos c1] at h
      cases h
      exact ⟨c1.2, a, c1.1, .inl hm⟩
    · rw [if_neg c1] at h
      by_cases c2 : b ∈ l ∧ a ∉ l
      · rw [if_pos c2] at h
        cases h
        exact ⟨c2.2, b, c2.1, .inr hm⟩
      · rw [if_neg c2] at h; cases h
  · rintro ⟨nz, y, hy, h | h⟩
    · refine ⟨(y, z), h, ?_⟩
      simp only [ct, cf]
      rw [if_pos ⟨hy, nz⟩]
    · refine ⟨(z, y), h, ?_⟩
      simp only [ct, cf]
      rw [if_neg (fun q => nz q.1), if_pos ⟨hy, nz⟩]
theorem news_nodup (ways : List (Nat × Nat)) (l : List Nat) : (news ways l).Nodup := nodup_erase _ _ (Nat.le_refl _)
theorem near_fix {ways : List (Nat × Nat)} {l : List Nat} (h : news ways l = []) : ∀ f, near ways f l = l
  | 0 => rfl
  | f + 1 => by rw [near_succ, h, List.append_nil, near_fix h f]
theorem near_closed {ways : List (Nat × Nat)} {L : Nat} (hw : ∀ w ∈ ways, w.1 < L ∧ w.2 < L) : ∀ (f : Nat) (l : List Nat), l.Nodup → (∀ x ∈ l, x < L) → L ≤ l.length + f → news ways (near ways f l) = []
  | 0, l, nd, hl, h => by
    show news ways l = []
    cases e : news ways l with
    | nil => rfl
    | cons z r =>
      exfalso
      have hz : z ∈ news ways l := by rw [e]; exact List.mem_cons_self
      obtain ⟨nz, y, hy, q⟩ := mem_news.mp hz
      have zL : z < L := by
        rcases q with q | q
        · exact (hw _ q).2
        · exact (hw _ q).1
      have := nodup_le L (l := z :: l) (List.nodup_cons.mpr ⟨nz, nd⟩) (fun x hx => by
        rcases List.mem_cons.mp hx with p | p
        · rw [p]; exact zL
        · exact hl x p)
      simp only [List.length_cons] at this
      omega
  | f + 1, l, nd, hl, h => by
    rw [near_succ]
    cases e : news ways l with
    | nil => rw [List.append_nil, near_fix e]; exact e
    | cons z r =>
      rw [← e]
      refine near_closed hw f _ ?_ ?_ ?_
      · refine List.nodup_append.mpr ⟨nd, news_nodup _ _, fun a ha b hb => ?_⟩
        rintro rfl
        exact (mem_news.mp hb).1 ha
      · intro x hx
        rcases List.mem_append.mp hx with p | p
        · exact hl x p
        · obtain ⟨_, y, _, q | q⟩ := mem_news.mp p
          · exact (hw _ q).2
          · exact (hw _ q).1
      · rw [List.length_append, e, List.length_cons]
        omega
theorem near_sub {ways : List (Nat × Nat)} : ∀ (f : Nat) (l : List Nat) {x : Nat}, x ∈ l → x ∈ near ways f l
  | 0, _, _, h => h
  | f + 1, l, x, h => by rw [near_succ]; exact near_sub f _ (List.mem_append_left _ h)
theorem near_cn {ways : List (Nat × Nat)} {x : Nat} : ∀ (f : Nat) (l : List Nat), (∀ y ∈ l, Cn ways x y) → ∀ y ∈ near ways f l, Cn ways x y
  | 0, _, h, y, hy => h y hy
  | f + 1, l, h, y, hy => by
    rw [near_succ] at hy
    refine near_cn f _ (fun z hz => ?_) y hy
    rcases List.mem_append.mp hz with p | p
    · exact h z p
    · obtain ⟨_, w, hw, q | q⟩ := mem_news.mp p
      · exact (h w hw).fw q
      · exact (h w hw).bw q
theorem near_iff {ways : List (Nat × Nat)} {L x y : Nat} (hw : ∀ w ∈ ways, w.1 < L ∧ w.2 < L) (hx : x < L) : (near ways L [x]).contains y = true ↔ Cn ways x y := by
  rw [List.contains_iff_mem]
  constructor
  · exact fun h => near_cn L [x] (fun z hz => by rw [List.mem_singleton.mp hz]; exact .refl) y h
  · intro h
    have cl := near_closed hw L [x] (List.nodup_cons.mpr ⟨fun z => (nomatch z), List.nodup_nil⟩) (fun z hz => by rw [List.mem_singleton.mp hz]; exact hx) (by simp)
    have step : ∀ {y z}, y ∈ near ways L [x] → (y, z) ∈ ways ∨ (z, y) ∈ ways → z ∈ near ways L [x] := fun {y z} hy q => by
      by_cases c : z ∈ near ways L [x]
      · exact c
      · have := mem_news.mpr ⟨c, y, hy, q⟩
        rw [cl] at this
        cases this
    induction h with
    | refl => exact near_sub L _ (List.mem_singleton.mpr rfl)
    | fw _ m ih => exact step ih (.inl m)
    | bw _ m ih => exact step ih (.inr m)

/-! ### parts by numbers -/
/-- parts says what t joins -/
def Parts (t : List (Nat × Nat)) (p : List Nat) : Prop := (∀ w ∈ t, w.1 < p.length ∧ w.2 < p.length) ∧ ∀ x y, x < p.length → y < p.length → (p.getD x 0 = p.getD y 0 ↔ Cn t x y)
theorem parts_start (n : Nat) : Parts [] (List.range n) := by
  refine ⟨fun w hw => (nomatch hw), fun x y hx hy => ?_⟩
  rw [List.length_range] at hx hy
  rw [List.getD_eq_getElem?_getD, List.getElem?_range hx, List.getD_eq_getElem?_getD, List.getElem?_range hy, cn_nil]
  rfl
def relabel (p : List Nat) (a b : Nat) : List Nat := p.map fun q => if q = b then a else q
theorem getD_relabel {p : List Nat} {a b x : Nat} (hx : x < p.length) : (relabel p a b).getD x 0 = if p.getD x 0 = b then a else p.getD x 0 := by
  unfold relabel
  rw [List.getD_eq_getElem?_getD, List.getElem?_map, List.getD_eq_getElem?_getD, List.getElem?_eq_getElem hx]
  rfl
theorem parts_step {t : List (Nat × Nat)} {p : List Nat} {i j : Nat} (P : Parts t p) (hi : i < p.length) (hj : j < p.length) (ne : p.getD i 0 ≠ p.getD j 0) : Parts (t ++ [(i, j)]) (relabel p (p.getD i 0) (p.getD j 0)) := by
  have hl : (relabel p (p.getD i 0) (p.getD j 0)).length = p.length := List.length_map _
  refine ⟨fun w hw => ?_, fun x y hx hy => ?_⟩
  · rw [hl]
    rcases List.mem_append.mp hw with q | q
    · exact P.1 w q
    · rw [List.mem_singleton.mp q]; exact ⟨hi, hj⟩
  · rw [hl] at hx hy
    rw [getD_relabel hx, getD_relabel hy, cn_add, ← P.2 x y hx hy, ← P.2 x i hx hi, ← P.2 j y hj hy, ← P.2 x j hx hj, ← P.2 i y hi hy]
    generalize p.getD x 0 = X at *
    generalize p.getD y 0 = Y at *
    generalize p.getD i 0 = I at *
    generalize p.getD j 0 = J at *
    by_cases c1 : X = J <;> by_cases c2 : Y = J
    · rw [if_pos c1, if_pos c2]
      exact ⟨fun _ => .inl (c1.trans c2.symm), fun _ => rfl⟩
    · rw [if_pos c1, if_neg c2]
      constructor
      · intro e; exact .inr (.inr ⟨c1, e⟩)
      · rintro (e | ⟨e, e'⟩ | ⟨e, e'⟩)
        · exact absurd (e.symm.trans c1) c2
        · exact absurd (e'.symm) c2
        · exact e'
    · rw [if_neg c1, if_pos c2]
      constructor
      · intro e; exact .inr (.inl ⟨e, c2.symm⟩)
      · rintro (e | ⟨e, e'⟩ | ⟨e, e'⟩)
        · exact absurd (e.trans c2) c1
        · exact e
        · exact absurd e c1
    · rw [if_neg c1, if_neg c2]
      constructor
      · intro e; exact .inl e
      · rintro (e | ⟨e, e'⟩ | ⟨e, e'⟩)
        · exact e
        · exact absurd e'.symm c2
        · exact absurd e c1
/-- one pair -/
def treeStep (n : Nat) (t : List (Nat × Nat)) (p : Nat × Nat) : List (Nat × Nat) := if (near t n [p.1]).contains p.2 = true then t else t ++ [p]
theorem tree_eq (l : List Nat) : tree l = (pairs l).foldl (treeStep l.length) [] := rfl
theorem step_iff {t : List (Nat × Nat)} {p : List Nat} {i j : Nat} (P : Parts t p) (hi : i < p.length) (hj : j < p.length) : treeStep p.length t (i, j) = if p.getD i 0 = p.getD j 0 then t else t ++ [(i, j)] := by
  unfold treeStep
  have e : ((near t p.length [i]).contains j = true) = (p.getD i 0 = p.getD j 0) := propext ((near_iff P.1 hi).trans (P.2 i j hi hj).symm)
  simp only [e]

/-! ### pairs, sorted -/
def pair3 (l : List Nat) (p : Nat × Nat) : List Int := [-(common (l.getD p.1 0) (l.getD p.2 0) : Int), (p.1 : Int), (p.2 : Int)]
theorem common_le (a b : Nat) : common a b ≤ 32 := of_length _
theorem mem_pairs {l : List Nat} {i j : Nat} : (i, j) ∈ pairs l ↔ i < j ∧ j < l.length := by
  unfold pairs
  simp only [List.mem_flatMap, List.mem_range, List.mem_map, List.mem_filter, Bool.and_eq_true, decide_eq_true_eq, beq_iff_eq, Prod.mk.injEq]
  constructor
  · rintro ⟨d, _, i', _, j', ⟨hj, hij, _⟩, rfl, rfl⟩
    exact ⟨hij, hj⟩
  · rintro ⟨h1, h2⟩
    have := common_le (l.getD i 0) (l.getD j 0)
    exact ⟨32 - common (l.getD i 0) (l.getD j 0), by omega, i, by omega, j, ⟨h2, h1, by omega⟩, rfl, rfl⟩
/-- the order of the triples -/
def T3 (a b : List Int) : Prop := match a, b with
  | [a1, a2, a3], [b1, b2, b3] => a1 < b1 ∨ (a1 = b1 ∧ (a2 < b2 ∨ (a2 = b2 ∧ a3 < b3)))
  | _, _ => False
theorem pairs_sorted (l : List Nat) : ((pairs l).map (pair3 l)).Pairwise T3 := by
  rw [List.pairwise_map]
  unfold pairs
  rw [List.pairwise_flatMap]
  constructor
  · intro d hd
    rw [List.pairwise_flatMap]
    constructor
    · intro i hi
      rw [List.pairwise_map]
      have s : ((List.range l.length).filter fun j => decide (i < j) && common (l.getD i 0) (l.getD j 0) + d == 32).Pairwise fun j j' => j < j' ∧ common (l.getD i 0) (l.getD j 0) = common (l.getD i 0) (l.getD j' 0) := by
        refine List.Pairwise.imp_of_mem (fun {a b} ha hb h => ?_) (List.pairwise_lt_range.filter _)
        have h1 := (List.mem_filter.mp ha).2
        have h2 := (List.mem_filter.mp hb).2
        simp only [Bool.and_eq_true, decide_eq_true_eq, beq_iff_eq] at h1 h2
        exact ⟨h, by omega⟩
      refine s.imp fun {a b} h => ?_
      show T3 (pair3 l (i, a)) (pair3 l (i, b))
      unfold pair3 T3
      dsimp only
      rw [h.2]
      exact .inr ⟨rfl, .inr ⟨rfl, by omega⟩⟩
    · refine List.pairwise_lt_range.imp fun {i i'} h => ?_
      intro x hx y hy
      obtain ⟨j, hj, rfl⟩ := List.mem_map.mp hx
      obtain ⟨j', hj', rfl⟩ := List.mem_map.mp hy
      have h1 := (List.mem_filter.mp hj).2
      have h2 := (List.mem_filter.mp hj').2
      simp only [Bool.and_eq_true, decide_eq_true_eq, beq_iff_eq] at h1 h2
      unfold pair3 T3
      dsimp only
      exact .inr ⟨by omega, .inl (by omega)⟩
  · refine List.pairwise_lt_range.imp fun {d d'} h => ?_
    intro x hx y hy
    obtain ⟨i, _, hx⟩ := List.mem_flatMap.mp hx
    obtain ⟨i', _, hy⟩ := List.mem_flatMap.mp hy
    obtain ⟨j, hj, rfl⟩ := List.mem_map.mp hx
    obtain ⟨j', hj', rfl⟩ := List.mem_map.mp hy
    have h1 := (List.mem_filter.mp hj).2
    have h2 := (List.mem_filter.mp hj').2
    simp only [Bool.and_eq_true, decide_eq_true_eq, beq_iff_eq] at h1 h2
    unfold pair3 T3
    dsimp only
    exact .inl (by omega)
/-- the pairs as the program lists them -/
def ranked (l : List Nat) : List (Nat × Nat) := (List.range l.length).flatMap fun i => ((List.range l.length).filter fun j => decide (i < j)).map fun j => (i, j)
theorem mem_ranked {l : List Nat} {i j : Nat} : (i, j) ∈ ranked l ↔ i < j ∧ j < l.length := by
  unfold ranked
  simp only [List.mem_flatMap, List.mem_range, List.mem_map, List.mem_filter, decide_eq_true_eq, Prod.mk.injEq]
  constructor
  · rintro ⟨i', _, j', ⟨hj, hij⟩, rfl, rfl⟩
    exact ⟨hij, hj⟩
  · rintro ⟨h1, h2⟩
    exact ⟨i, by omega, j, ⟨h2, h1⟩, rfl, rfl⟩
theorem ranked_nodup (l : List Nat) : (ranked l).Nodup := by
  unfold ranked
  rw [List.nodup_iff_pairwise_ne, List.pairwise_flatMap]
  constructor
  · intro i _
    rw [List.pairwise_map]
    refine (List.pairwise_lt_range.filter _).imp fun {a b} h => ?_
    intro e
    injection e
    omega
  · refine List.pairwise_lt_range.imp fun {i i'} h => ?_
    intro x hx y hy e
    obtain ⟨j, _, rfl⟩ := List.mem_map.mp hx
    obtain ⟨j', _, rfl⟩ := List.mem_map.mp hy
    injection e
    omega
theorem T3.irr (a : List Int) : ¬ T3 a a := by
  unfold T3
  split
  · omega
  · exact fun h => h
theorem T3.asymm {a b : List Int} (h : T3 a b) : ¬ T3 b a := by
  unfold T3 at *
  split at h
  · omega
  · exact h.elim
theorem pairs_nodup (l : List Nat) : (pairs l).Nodup := by
  have := pairs_sorted l
  rw [List.pairwise_map] at this
  rw [List.nodup_iff_pairwise_ne]
  exact this.imp fun {a b} h e => by rw [e] at h; exact T3.irr _ h
theorem pairs_perm (l : List Nat) : (pairs l).Perm (ranked l) := (List.perm_ext_iff_of_nodup (pairs_nodup l) (ranked_nodup l)).mpr fun p => by
  obtain ⟨i, j⟩ := p
  rw [mem_pairs, mem_ranked]
/-- a sorted row of the triples is the specification's -/
theorem sorted_pairs {l : List Nat} {s : List (List Int)} (p : s.Perm ((ranked l).map (pair3 l))) (h : s.Pairwise fun a b => ¬ T3 b a) : s = (pairs l).map (pair3 l) := by
  have p' : s.Perm ((pairs l).map (pair3 l)) := p.trans ((pairs_perm l).symm.map _)
  refine List.Perm.eq_of_pairwise (le := fun a b => ¬ T3 b a) (fun a b ha hb h1 h2 => ?_) h ((pairs_sorted l).imp fun h => h.asymm) p'
  obtain ⟨x, _, rfl⟩ := List.mem_map.mp ((p'.mem_iff).mp ha)
  obtain ⟨y, _, rfl⟩ := List.mem_map.mp hb
  unfold pair3 T3 at *
  dsimp only at h1 h2
  have e1 : (-(common (l.getD x.1 0) (l.getD x.2 0) : Int)) = -(common (l.getD y.1 0) (l.getD y.2 0) : Int) := by omega
  have e2 : (x.1 : Int) = y.1 := by omega
  have e3 : (x.2 : Int) = y.2 := by omega
  rw [e1, e2, e3]
end Gm

set_option linter.all false
namespace Gm
open Sa79

/-! ### layers as the program keeps them -/
def layersM (g : G) (a b inner : Nat) : List Nat := match lay g (g.getD a 0) 33 (2 ^ b) inner with
  | none => []
  | some r => 2 ^ b :: r
theorem way_of_nil {g : G} {a b inner : Nat} (e : layersM g a b inner = []) : firstWay g a b inner = [] := by
  unfold layersM at e
  unfold firstWay
  cases q : lay g (g.getD a 0) 33 (2 ^ b) inner with
  | none => rfl
  | some r => rw [q] at e; cases e
theorem way_of_ne {g : G} {a b inner : Nat} (e : layersM g a b inner ≠ []) : firstWay g a b inner = (back g a (layersM g a b inner) ++ [a]).reverse ∧ ∃ r, layersM g a b inner = 2 ^ b :: r ∧ Lays g (g.getD a 0) (2 ^ b) inner r := by
  unfold layersM at *
  unfold firstWay
  cases q : lay g (g.getD a 0) 33 (2 ^ b) inner with
  | none => rw [q] at e; exact absurd rfl e
  | some r => exact ⟨by rw [List.reverse_append]; rfl, r, rfl, lay_lays q⟩
/-- between two turns -/
structure Laying (g : G) (a b inner : Nat) (pre : List Nat) (last left f : Nat) : Prop where
  eq : layersM g a b inner = match lay g (g.getD a 0) f last left with
    | none => []
    | some r => pre ++ last :: r
  few : (ofMask left).length < f
  sz : pre.length + f = 33
  last_lt : last < 2 ^ g.length
  left_lt : left < 2 ^ g.length
theorem lt32 {g : G} (h : Gr g) {m : Nat} (q : m < 2 ^ g.length) : m < 2 ^ 32 := Nat.lt_of_lt_of_le q h.pow32
theorem laying_start {g : G} (h : Gr g) {a b inner : Nat} (hb : b < g.length) (hi : inner < 2 ^ g.length) : Laying g a b inner [] (2 ^ b) inner 33 := by
  refine ⟨?_, by have := of_length inner; omega, rfl, Nat.pow_lt_pow_right (by decide) hb, hi⟩
  unfold layersM
  rfl
theorem laying_stop {g : G} {a b inner : Nat} {pre : List Nat} {last left f : Nat} (L : Laying g a b inner pre last left f) (c : last &&& g.getD a 0 ≠ 0) : layersM g a b inner = pre ++ [last] := by
  rw [L.eq]
  cases f with
  | zero => exact absurd L.few (Nat.not_lt_zero _)
  | succ f => unfold lay; rw [if_pos c]
theorem laying_none {g : G} {a b inner : Nat} {pre : List Nat} {last left f : Nat} (L : Laying g a b inner pre last left f) (c : last &&& g.getD a 0 = 0) (d : js g last &&& left = 0) : layersM g a b inner = [] := by
  rw [L.eq]
  cases f with
  | zero => exact absurd L.few (Nat.not_lt_zero _)
  | succ f => unfold lay; rw [if_neg (by simpa using c), if_pos d]
theorem laying_next {g : G} (h : Gr g) {a b inner : Nat} {pre : List Nat} {last left f : Nat} (L : Laying g a b inner pre last left f) (c : last &&& g.getD a 0 = 0) (d : js g last &&& left ≠ 0) :
    ∃ f', f = f' + 1 ∧ Laying g a b inner (pre ++ [last]) (js g last &&& left) (wo left (js g last &&& left)) f' := by
  cases f with
  | zero => exact absurd L.few (Nat.not_lt_zero _)
  | succ f =>
    refine ⟨f, rfl, ?_, ?_, ?_, and_lt L.left_lt, wo_lt L.left_lt⟩
    · have e : lay g (g.getD a 0) (f + 1) last left = (lay g (g.getD a 0) f (js g last &&& left) (wo left (js g last &&& left))).map fun r => (js g last &&& left) :: r := by
        show (if _ then _ else _) = _
        rw [if_neg (by simpa using c), if_neg d]
      rw [L.eq, e]
      cases lay g (g.getD a 0) f (js g last &&& left) (wo left (js g last &&& left)) with
      | none => rfl
      | some r => simp
    · obtain ⟨i, hi⟩ := exists_tb d
      have hi2 := hi
      rw [Nat.testBit_and, Bool.and_eq_true] at hi2
      have := wo_fewer (lt32 h L.left_lt) hi2.2 hi
      have := L.few
      omega
    · have := L.sz
      rw [List.length_append, List.length_singleton]
      omega
/-- each layer has a point that is joined to the one picked behind it -/
theorem back_nz {g : G} (h : Gr g) {a last left : Nat} {r : List Nat} (ha : a < g.length) (Y : Lays g (g.getD a 0) last left r) : last < 2 ^ g.length → left < 2 ^ g.length → ∀ pre L Ls, last :: r = pre ++ L :: Ls →
    (back g a Ls).headD a < g.length ∧ g.getD ((back g a Ls).headD a) 0 &&& L ≠ 0 ∧ L < 2 ^ g.length := by
  induction Y with
  | @stop last left c =>
    intro hl hf pre L Ls e
    cases pre with
    | nil =>
      cases e
      exact ⟨ha, by rw [Nat.and_comm]; exact c, hl⟩
    | cons x pre =>
      have e : last :: [] = x :: (pre ++ L :: Ls) := e
      injection e with _ e
      cases pre <;> cases e
  | @next last left r c d Y ih =>
    intro hl hf pre L Ls e
    have ih := ih (and_lt hf) (wo_lt hf)
    cases pre with
    | nil =>
      cases e
      obtain ⟨h1, h2, _⟩ := ih [] _ r rfl
      have m32 : g.getD ((back g a r).headD a) 0 &&& (js g last &&& left) < 2 ^ 32 := and_lt (lt32 h (and_lt hf))
      have hy := lp_mem m32 h2
      rw [Nat.testBit_and, Bool.and_eq_true] at hy
      have hh : (back g a ((js g last &&& left) :: r)).headD a = lp (g.getD ((back g a r).headD a) 0 &&& (js g last &&& left)) := rfl
      rw [hh]
      generalize lp (g.getD ((back g a r).headD a) 0 &&& (js g last &&& left)) = y at hy
      have hm := hy.2
      rw [Nat.testBit_and, Bool.and_eq_true] at hm
      obtain ⟨u, hu, j⟩ := tb_js.mp hm.1
      refine ⟨h.lt j, fun z => ?_, hl⟩
      have : (g.getD y 0 &&& last).testBit u = true := by
        rw [Nat.testBit_and, (mem_of.mp hu).2, Bool.and_true]
        rw [h.sym] at j
        exact j
      rw [z, Nat.zero_testBit] at this
      cases this
    | cons x pre =>
      have e : last :: (js g last &&& left) :: r = x :: (pre ++ L :: Ls) := e
      injection e with _ e
      exact ih pre L Ls e
theorem rev_last (l : List Nat) (a : Nat) : ∃ pre, (l ++ [a]).reverse = pre ++ [l.headD a] := by
  cases l with
  | nil => exact ⟨[], rfl⟩
  | cons y ys => exact ⟨(ys ++ [a]).reverse, by rw [List.cons_append, List.reverse_cons]; rfl⟩
theorem back_cons (g : G) (a L : Nat) (Ls : List Nat) : back g a (L :: Ls) = lp (g.getD ((back g a Ls).headD a) 0 &&& L) :: back g a Ls := rfl

/-! ### a graph, row by row -/
def rowOk (g : G) (u : Nat) : Prop := g.getD u 0 / 2 ^ g.length = 0 ∧ (g.getD u 0).testBit u = false ∧ ∀ v, v < u → (g.getD u 0).testBit v = (g.getD v 0).testBit u
theorem graph_iff (g : G) : isGraph g = true ↔ 1 ≤ g.length ∧ g.length ≤ 32 ∧ ∀ u, u < g.length → rowOk g u := by
  constructor
  · intro h
    have G := Gr.of h
    refine ⟨G.len1, G.len32, fun u _ => ⟨Nat.div_eq_of_lt (G.small u), G.irr u, fun v _ => G.sym u v⟩⟩
  · rintro ⟨h1, h2, h3⟩
    unfold isGraph
    rw [Bool.and_eq_true, Bool.and_eq_true, List.all_eq_true]
    refine ⟨decide_eq_true h1, decide_eq_true h2, fun u hu => ?_⟩
    have hu := List.mem_range.mp hu
    rw [Bool.and_eq_true, Bool.and_eq_true, List.all_eq_true]
    obtain ⟨q1, q2, q3⟩ := h3 u hu
    refine ⟨decide_eq_true ?_, by rw [show joined g u u = false from q2]; rfl, fun v hv => ?_⟩
    · have := Nat.two_pow_pos g.length
      rcases Nat.lt_or_ge (g.getD u 0) (2 ^ g.length) with z | z
      · exact z
      · have := Nat.div_pos z this
        omega
    · have hv := List.mem_range.mp hv
      rw [beq_iff_eq]
      rcases Nat.lt_trichotomy v u with z | z | z
      · exact q3 v z
      · rw [z]
      · exact ((h3 v hv).2.2 u z).symm

/-! ### what is due, by masks -/
theorem nats_cast (g : List Nat) : Sa79Neutral.nats (g.map fun (n : Nat) => (n : Int)) = g := by
  unfold Sa79Neutral.nats
  rw [List.map_map]
  conv => rhs; rw [← List.map_id g]
  rfl
def ans (v : Int) (l b : List Nat) : List Int := v :: ((l.length : Nat) : Int) :: (l.map (fun (n : Nat) => (n : Int)) ++ ((b.length : Nat) : Int) :: b.map fun (n : Nat) => (n : Int))
theorem due (g : List Nat) (k : Int) (C : Sa79.Call) (e : Sa79Neutral.callOf [[k, ((g.map fun (n : Nat) => (n : Int)).length : Int)], g.map fun (n : Nat) => (n : Int)] = some C) :
    Sa79Neutral.f [[k, ((g.map fun (n : Nat) => (n : Int)).length : Int)], g.map fun (n : Nat) => (n : Int)] = ans (does C).v (does C).l (does C).b := by
  unfold Sa79Neutral.f
  rw [e]
  rfl
theorem good_eq (g : List Nat) : good g ((g.length : Nat) : Int) = isGraph g := by
  unfold good
  rw [decide_eq_true rfl, Bool.true_and]
theorem does_order (g : List Nat) (n : Int) : does (.order g n) = if good g n = false then ok (-2) else (match order g with
    | some o => ⟨0, o, []⟩
    | none => match circle g with
      | some c => ⟨c.length, c, []⟩
      | none => ok (-2)) := rfl
theorem due_order (g : List Nat) : PySa79.pf_order (g.map fun (n : Nat) => (n : Int)) = if isGraph g = false then ans (-2) [] [] else (match order g with
    | some o => ans 0 o []
    | none => match circle g with
      | some c => ans c.length c []
      | none => ans (-2) [] []) := by
  have e : Sa79Neutral.callOf [[1, ((g.map fun (n : Nat) => (n : Int)).length : Int)], g.map fun (n : Nat) => (n : Int)] = some (.order g g.length) := by
    show some (Call.order (Sa79Neutral.nats (g.map fun (n : Nat) => (n : Int))) _) = _
    rw [nats_cast, List.length_map]
  unfold PySa79.pf_order
  rw [due g 1 _ e, does_order, good_eq]
  cases isGraph g with
  | false => rfl
  | true =>
    simp only [Bool.true_eq_false, if_false]
    cases order g with
    | some o => rfl
    | none =>
      simp only
      cases circle g <;> rfl
theorem does_cliques (g : List Nat) (n : Int) : does (.cliques g n) = if good g n = false then ok (-2) else (match order g with
    | some o => let l := cliques g o; ⟨l.length, l, (tree l).flatMap fun p => [p.1, p.2]⟩
    | none => ok (-3)) := rfl
theorem due_cliques (g : List Nat) : PySa79.pf_cliques (g.map fun (n : Nat) => (n : Int)) = if isGraph g = false then ans (-2) [] [] else (match order g with
    | some o => ans (cliques g o).length (cliques g o) ((tree (cliques g o)).flatMap fun p => [p.1, p.2])
    | none => ans (-3) [] []) := by
  have e : Sa79Neutral.callOf [[2, ((g.map fun (n : Nat) => (n : Int)).length : Int)], g.map fun (n : Nat) => (n : Int)] = some (.cliques g g.length) := by
    show some (Call.cliques (Sa79Neutral.nats (g.map fun (n : Nat) => (n : Int))) _) = _
    rw [nats_cast, List.length_map]
  unfold PySa79.pf_cliques
  rw [due g 2 _ e, does_cliques, good_eq]
  cases isGraph g with
  | false => rfl
  | true =>
    simp only [Bool.true_eq_false, if_false]
    cases order g <;> rfl
end Gm
namespace Gm
open Sa79
theorem lay_len {g : G} {ga : Nat} : ∀ {f last left : Nat} {r : List Nat}, lay g ga f last left = some r → r.length < f
  | 0, _, _, _, h => by cases h
  | f + 1, last, left, r, h => by
    have h : (if last &&& ga ≠ 0 then some [] else if js g last &&& left = 0 then none else (lay g ga f (js g last &&& left) (wo left (js g last &&& left))).map fun r => (js g last &&& left) :: r) = some r := h
    by_cases c : last &&& ga ≠ 0
    · rw [if_pos c] at h; cases h; simp
    · rw [if_neg c] at h
      by_cases d : js g last &&& left = 0
      · rw [if_pos d] at h; cases h
      · rw [if_neg d] at h
        cases e : lay g ga f (js g last &&& left) (wo left (js g last &&& left)) with
        | none => rw [e] at h; cases h
        | some r' =>
          rw [e] at h
          cases h
          have := lay_len e
          simp only [List.length_cons]
          omega
theorem layers_len {g : G} (_h : Gr g) {a b inner : Nat} : (layersM g a b inner).length ≤ 33 := by
  unfold layersM
  cases e : lay g (g.getD a 0) 33 (2 ^ b) inner with
  | none => simp
  | some r =>
    have := lay_len e
    simp only [List.length_cons]
    omega
end Gm
namespace Gm
open Sa79
theorem way_len {g : G} (h : Gr g) {a b inner : Nat} : (firstWay g a b inner).length ≤ 100 := by
  by_cases e : layersM g a b inner = []
  · rw [way_of_nil e]; simp
  · rw [(way_of_ne e).1, List.length_reverse, List.length_append, back_length, List.length_singleton]
    have := layers_len h (a := a) (b := b) (inner := inner)
    omega
end Gm

set_option linter.all false
namespace Gm
open Sa79

/-! ### the candidates, one by one -/
theorem later_len {g : G} : ∀ o : List Nat, (withLater g o).length = o.length
  | [] => rfl
  | v :: r => by
    show (withLater g r).length + 1 = r.length + 1
    rw [later_len r]
theorem later_at {g : G} : ∀ (o : List Nat) (i : Nat), i < o.length → (withLater g o)[i]? = some (o.getD i 0 :: (o.drop (i + 1)).filter fun u => joined g (o.getD i 0) u)
  | [], i, h => absurd h (Nat.not_lt_zero _)
  | v :: r, 0, _ => rfl
  | v :: r, i + 1, h => by
    have := later_at (g := g) r i (by simpa using h)
    show (withLater g r)[i]? = _
    rw [this]
    rfl
def cands (g : G) (o : List Nat) : List Nat := (withLater g o).map maskOf
theorem cands_len (g : G) (o : List Nat) : (cands g o).length = o.length := by
  unfold cands
  rw [List.length_map, later_len]
/-- between two turns: those from i on are left -/
structure Cand (g : G) (o : List Nat) (i left : Nat) : Prop where
  eq : ∀ x, left.testBit x = true ↔ x ∈ o.drop i
  lt : left < 2 ^ g.length
theorem cand_start {g : G} (hg : Gr g) {o : List Nat} (h : order g = some o) : Cand g o 0 (2 ^ g.length - 1) := by
  refine ⟨fun x => ?_, by have := Nat.two_pow_pos g.length; omega⟩
  rw [Nat.testBit_two_pow_sub_one, decide_eq_true_eq, List.drop_zero, order_mem hg h]
theorem drop_getD {o : List Nat} {i : Nat} (hi : i < o.length) : o.drop i = o.getD i 0 :: o.drop (i + 1) := by
  rw [List.drop_eq_getElem_cons hi, List.getD_eq_getElem?_getD, List.getElem?_eq_getElem hi]
  rfl
theorem cand_step {g : G} (hg : Gr g) {o : List Nat} (h : order g = some o) {i left : Nat} (c : Cand g o i left) (hi : i < o.length) : Cand g o (i + 1) (wo left (2 ^ o.getD i 0)) := by
  refine ⟨fun x => ?_, wo_lt c.lt⟩
  have nd : (o.drop i).Nodup := (order_nodup hg h).sublist (List.drop_sublist _ _)
  rw [tb_wo, tb_pow, Bool.and_eq_true, c.eq, drop_getD hi]
  rw [drop_getD hi] at nd
  obtain ⟨n1, _⟩ := List.nodup_cons.mp nd
  constructor
  · rintro ⟨h1, h2⟩
    rcases List.mem_cons.mp h1 with z | z
    · rw [decide_eq_true z.symm] at h2
      cases h2
    · exact z
  · intro h1
    refine ⟨List.mem_cons_of_mem _ h1, ?_⟩
    rw [decide_eq_false (fun z => n1 (by rw [z]; exact h1))]
    rfl
theorem cand_lt {g : G} (hg : Gr g) {o : List Nat} (h : order g = some o) {i : Nat} (hi : i < o.length) : o.getD i 0 < g.length := by
  refine (order_mem hg h _).mp ?_
  rw [List.getD_eq_getElem?_getD, List.getElem?_eq_getElem hi]
  exact List.getElem_mem hi
theorem cand_val {g : G} (hg : Gr g) {o : List Nat} (h : order g = some o) {i left : Nat} (c : Cand g o i left) (hi : i < o.length) : (g.getD (o.getD i 0) 0 &&& left) ||| 2 ^ o.getD i 0 = (cands g o).getD i 0 := by
  have h32 : ∀ x ∈ o, x < 32 := fun x hx => Nat.lt_of_lt_of_le ((order_mem hg h x).mp hx) hg.len32
  have hv := cand_lt hg h hi
  rw [cand_mask hg (r := o.drop (i + 1)) (Nat.lt_of_lt_of_le hv hg.len32) (fun x => by rw [c.eq x, drop_getD hi]) fun x hx => h32 x (List.drop_subset _ _ hx)]
  have e : (cands g o)[i]? = some (maskOf (o.getD i 0 :: (o.drop (i + 1)).filter fun u => joined g (o.getD i 0) u)) := by
    unfold cands
    rw [List.getElem?_map, later_at o i hi]
    rfl
  rw [List.getD_eq_getElem?_getD (l := cands g o), e]
  rfl
theorem cand_small {g : G} (hg : Gr g) {o : List Nat} (h : order g = some o) {i left : Nat} (c : Cand g o i left) (hi : i < o.length) : (g.getD (o.getD i 0) 0 &&& left) ||| 2 ^ o.getD i 0 < 2 ^ g.length :=
  Nat.or_lt_two_pow (and_lt c.lt) (Nat.pow_lt_pow_right (by decide) (cand_lt hg h hi))
theorem cands_small {g : G} {o : List Nat} {x : Nat} (h : x ∈ cands g o) : x < 2 ^ 32 := by
  obtain ⟨l, _, rfl⟩ := List.mem_map.mp h
  exact mask_lt l
/-- sorted as numbers -/
theorem cliques_of {g : G} (hg : Gr g) {o : List Nat} (h : order g = some o) {ns : List Int} (p : ns.Perm (((cands g o).filter fun m => decide (ja g m = 0)).map fun (n : Nat) => (n : Int))) (s : ns.Pairwise (· ≤ ·)) :
    ns = (cliques g o).map (fun (n : Nat) => (n : Int)) ∧ (cliques g o).length ≤ 32 ∧ ∀ x ∈ cliques g o, x < 2 ^ 32 := by
  have hnn : ∀ z ∈ ns, 0 ≤ z := fun z hz => by
    obtain ⟨n, _, rfl⟩ := List.mem_map.mp (p.mem_iff.mp hz)
    omega
  have e1 : ns = (ns.map Int.toNat).map fun (n : Nat) => (n : Int) := by
    rw [List.map_map]
    conv => lhs; rw [← List.map_id ns]
    refine List.map_congr_left fun z hz => ?_
    have := hnn z hz
    show z = ((z.toNat : Nat) : Int)
    omega
  have p2 : (ns.map Int.toNat).Perm (found_ g o) := by
    have := p.map Int.toNat
    rw [List.map_map] at this
    have e : ((cands g o).filter fun m => decide (ja g m = 0)).map (Int.toNat ∘ fun (n : Nat) => (n : Int)) = found_ g o := by
      conv => rhs; rw [← List.map_id (found_ g o)]
      exact List.map_congr_left fun _ _ => rfl
    rw [e] at this
    exact this
  have s2 : (ns.map Int.toNat).Pairwise (· ≤ ·) := by
    rw [List.pairwise_map]
    exact s.imp fun {a b} h => by omega
  have ec := cliques_eq hg h p2 s2
  rw [ec] at e1 p2
  refine ⟨e1, ?_, fun x hx => ?_⟩
  · rw [p2.length_eq]
    refine Nat.le_trans (List.length_filter_le _ _) ?_
    have : ((withLater g o).map maskOf).length = o.length := cands_len g o
    rw [this, (order_ok hg h).1.length_eq, len_points]
    exact hg.len32
  · have := p2.mem_iff.mp hx
    exact cands_small (List.mem_filter.mp this).1

/-! ### pairs, row by row -/
theorem above_range (n i : Nat) : (List.range n).filter (fun j => decide (i < j)) = (List.range (n - (i + 1))).map fun k => i + 1 + k := by
  refine sorted_ext (List.pairwise_lt_range.filter _) ?_ fun x => ?_
  · rw [List.pairwise_map]
    exact List.pairwise_lt_range.imp fun {a b} h => by omega
  · rw [List.mem_filter, List.mem_range, decide_eq_true_eq, List.mem_map]
    constructor
    · rintro ⟨h1, h2⟩
      exact ⟨x - (i + 1), List.mem_range.mpr (by omega), by omega⟩
    · rintro ⟨k, hk, rfl⟩
      have := List.mem_range.mp hk
      omega
def rowT (l : List Nat) (i k : Nat) : List (List Int) := (List.range k).map fun j => pair3 l (i, i + 1 + j)
theorem ranked_rows (l : List Nat) : (ranked l).map (pair3 l) = (List.range l.length).flatMap fun i => rowT l i (l.length - (i + 1)) := by
  unfold ranked
  rw [List.map_flatMap]
  congr 1
  funext i
  rw [above_range, List.map_map, List.map_map]
  rfl
theorem rowT_succ (l : List Nat) (i k : Nat) : rowT l i (k + 1) = rowT l i k ++ [pair3 l (i, i + 1 + k)] := by
  unfold rowT
  rw [List.range_succ, List.map_append]
  rfl
theorem rows_succ (l : List Nat) (i : Nat) : (List.range (i + 1)).flatMap (fun i => rowT l i (l.length - (i + 1))) = (List.range i).flatMap (fun i => rowT l i (l.length - (i + 1))) ++ rowT l i (l.length - (i + 1)) := by
  rw [List.range_succ, List.flatMap_append]
  simp
theorem rowT_len (l : List Nat) (i k : Nat) : (rowT l i k).length = k := by
  unfold rowT
  rw [List.length_map, List.length_range]
theorem rows_le (l : List Nat) (h : l.length ≤ 32) : ∀ i, ((List.range i).flatMap fun i => rowT l i (l.length - (i + 1))).length ≤ i * 32
  | 0 => by simp
  | i + 1 => by
    have := rows_le l h i
    rw [rows_succ, List.length_append, rowT_len]
    omega
theorem pairs_le (l : List Nat) (h : l.length ≤ 32) : (pairs l).length ≤ 1024 := by
  rw [(pairs_perm l).length_eq, ← List.length_map (f := pair3 l), ranked_rows]
  have := rows_le l h l.length
  have : l.length * 32 ≤ 32 * 32 := Nat.mul_le_mul_right _ h
  omega
theorem tree_take (l : List Nat) {i : Nat} (hi : i < (pairs l).length) : ((pairs l).take (i + 1)).foldl (treeStep l.length) [] = treeStep l.length (((pairs l).take i).foldl (treeStep l.length) []) (pairs l)[i] := by
  rw [List.take_succ_eq_append_getElem hi, List.foldl_append]
  rfl
def flat2 (t : List (Nat × Nat)) : List Nat := t.flatMap fun p => [p.1, p.2]
theorem flat2_len (t : List (Nat × Nat)) : (flat2 t).length = 2 * t.length := by
  unfold flat2
  induction t with
  | nil => rfl
  | cons a t ih =>
    rw [List.flatMap_cons, List.length_append, ih, List.length_cons]
    simp only [List.length_cons, List.length_nil]
    omega
theorem flat2_app (t s : List (Nat × Nat)) : flat2 (t ++ s) = flat2 t ++ flat2 s := List.flatMap_append
end Gm

set_option linter.all false
namespace Gm
open Sa79

/-! ### a largest one -/
def bigger (a b : Nat) : Nat := if sizeOf_ a < sizeOf_ b then b else a
theorem bigger_of {a b : Nat} (h : sizeOf_ a < sizeOf_ b) : bigger a b = b := if_pos h
theorem fold_lt {s : Nat} : ∀ (l : List Nat) (a : Nat), sizeOf_ a < s → (∀ x ∈ l, sizeOf_ x < s) → sizeOf_ (l.foldl bigger a) < s
  | [], a, h, _ => h
  | b :: l, a, h, hl => by
    refine fold_lt l (bigger a b) ?_ fun x hx => hl x (List.mem_cons_of_mem _ hx)
    unfold bigger
    split
    · exact hl b List.mem_cons_self
    · exact h
theorem fold_le : ∀ (l : List Nat) (a : Nat), (∀ x ∈ l, sizeOf_ x ≤ sizeOf_ a) → l.foldl bigger a = a
  | [], a, _ => rfl
  | b :: l, a, hl => by
    have e : bigger a b = a := by
      unfold bigger
      rw [if_neg (by have := hl b List.mem_cons_self; omega)]
    show l.foldl bigger (bigger a b) = a
    rw [e]
    exact fold_le l a fun x hx => hl x (List.mem_cons_of_mem _ hx)
theorem split_at {l : List Nat} {i : Nat} (hi : i < l.length) : l = l.take i ++ l.getD i 0 :: l.drop (i + 1) := by
  rw [List.getD_eq_getElem?_getD, List.getElem?_eq_getElem hi]
  show l = l.take i ++ l[i] :: l.drop (i + 1)
  rw [← List.drop_eq_getElem_cons hi, List.take_append_drop]
theorem mem_take_getD {l : List Nat} {i x : Nat} (h : x ∈ l.take i) : ∃ j, j < i ∧ j < l.length ∧ l.getD j 0 = x := by
  obtain ⟨j, hj, e⟩ := List.getElem_of_mem h
  rw [List.length_take] at hj
  rw [List.getElem_take] at e
  refine ⟨j, by omega, by omega, ?_⟩
  rw [List.getD_eq_getElem?_getD, List.getElem?_eq_getElem (by omega)]
  exact e
theorem largest_is {l : List Nat} {i : Nat} (hi : i < l.length) (h32 : ∀ x ∈ l, x < 2 ^ 32) (h1 : ∀ j, j < i → sizeOf_ (l.getD j 0) < sizeOf_ (l.getD i 0)) (h2 : ∀ x ∈ l, sizeOf_ x ≤ sizeOf_ (l.getD i 0)) : largest l = l.getD i 0 := by
  show l.foldl bigger 0 = l.getD i 0
  have e := split_at hi
  have hm : l.getD i 0 ∈ l := getD_mem' hi
  generalize l.getD i 0 = c at *
  have hdrop : ∀ x ∈ l.drop (i + 1), sizeOf_ x ≤ sizeOf_ c := fun x hx => h2 x (List.mem_of_mem_drop hx)
  rw [e, List.foldl_append, List.foldl_cons]
  have ec : bigger ((l.take i).foldl bigger 0) c = c := by
    by_cases z : sizeOf_ c = 0
    · have hc : c = 0 := (of_nil (h32 c hm)).mp (List.eq_nil_of_length_eq_zero z)
      have hn : l.take i = [] := by
        cases q : l.take i with
        | nil => rfl
        | cons y ys =>
          obtain ⟨j, hj, hjl, ej⟩ := mem_take_getD (l := l) (i := i) (x := y) (by rw [q]; exact List.mem_cons_self)
          have := h1 j hj
          omega
      rw [hn]
      show bigger 0 c = c
      rw [hc]
      rfl
    · have s0 : sizeOf_ 0 = 0 := by unfold sizeOf_; rw [of_zero]; rfl
      have := fold_lt (s := sizeOf_ c) (l.take i) 0 (by omega) fun x hx => by
        obtain ⟨j, hj, hjl, ej⟩ := mem_take_getD hx
        rw [← ej]
        exact h1 j hj
      exact bigger_of this
  rw [ec]
  exact fold_le _ c hdrop

/-! ### points of which none are joined -/
def apStep (g : G) (m v : Nat) : Nat := if g.getD v 0 &&& m = 0 then m ||| 2 ^ v else m
def apList (g : G) (l : List Nat) (v : Nat) : List Nat := if (l.any fun u => joined g u v) = true then l else l ++ [v]
theorem and_zero_iff {a m : Nat} : a &&& m = 0 ↔ ∀ i, m.testBit i = true → a.testBit i = false := by
  constructor
  · intro h i hi
    have : (a &&& m).testBit i = false := by rw [h, Nat.zero_testBit]
    rw [Nat.testBit_and, hi, Bool.and_true] at this
    exact this
  · intro h
    refine zero_of fun i => ?_
    rw [Nat.testBit_and]
    cases q : m.testBit i with
    | false => simp
    | true => rw [h i q]; rfl
theorem mask_snoc {l : List Nat} {v : Nat} (hl : ∀ x ∈ l, x < 32) (hv : v < 32) : maskOf l ||| 2 ^ v = maskOf (l ++ [v]) := by
  refine ext fun i => ?_
  have h2 : ∀ x ∈ l ++ [v], x < 32 := fun x hx => by
    rcases List.mem_append.mp hx with z | z
    · exact hl x z
    · rw [List.mem_singleton.mp z]; exact hv
  rw [Nat.testBit_or, tb_pow, Bool.eq_iff_iff, tb_mask_iff h2, Bool.or_eq_true, tb_mask_iff hl, decide_eq_true_eq, List.mem_append, List.mem_singleton]
  exact ⟨fun h => h.imp id Eq.symm, fun h => h.imp id Eq.symm⟩
theorem ap_step {g : G} (hg : Gr g) {l : List Nat} {v : Nat} (hl : ∀ x ∈ l, x < 32) (hv : v < 32) : apStep g (maskOf l) v = maskOf (apList g l v) ∧ ∀ x ∈ apList g l v, x < 32 := by
  have key : (g.getD v 0 &&& maskOf l = 0) ↔ ¬ (l.any fun u => joined g u v) = true := by
    rw [and_zero_iff, List.any_eq_true]
    constructor
    · rintro h ⟨u, hu, j⟩
      have := h u ((tb_mask_iff hl).mpr hu)
      rw [hg.sym] at j
      rw [joined_tb, this] at j
      cases j
    · intro h i hi
      cases q : (g.getD v 0).testBit i with
      | false => rfl
      | true => exact absurd ⟨i, (tb_mask_iff hl).mp hi, by rw [hg.sym]; exact q⟩ h
  unfold apStep apList
  by_cases c : (l.any fun u => joined g u v) = true
  · rw [if_pos c, if_neg (fun z => key.mp z c)]
    exact ⟨rfl, hl⟩
  · rw [if_neg c, if_pos (key.mpr c)]
    refine ⟨mask_snoc hl hv, fun x hx => ?_⟩
    rcases List.mem_append.mp hx with z | z
    · exact hl x z
    · rw [List.mem_singleton.mp z]; exact hv
theorem ap_fold {g : G} (hg : Gr g) (o : List Nat) : ∀ l : List Nat, (∀ x ∈ o, x < 32) → (∀ x ∈ l, x < 32) → o.foldl (apStep g) (maskOf l) = maskOf (o.foldl (apList g) l) := by
  induction o with
  | nil => intro l _ _; rw [List.foldl_nil, List.foldl_nil]
  | cons v o ih =>
    intro l ho hl
    obtain ⟨e, h⟩ := ap_step hg hl (ho v List.mem_cons_self)
    rw [List.foldl_cons, List.foldl_cons, e]
    exact ih _ (fun x hx => ho x (List.mem_cons_of_mem _ hx)) h
theorem apart_eq {g : G} (hg : Gr g) {o : List Nat} (ho : ∀ x ∈ o, x < 32) : o.foldl (apStep g) 0 = maskOf (apartSet g o) := by
  have : maskOf [] = 0 := by decide
  have e := ap_fold hg o [] ho (by simp)
  rw [this] at e
  exact e

/-! ### the least number that isn't there -/
theorem sub_len : ∀ {a b : List Nat}, a.Nodup → (∀ x ∈ a, x ∈ b) → a.length ≤ b.length
  | [], _, _, _ => Nat.zero_le _
  | x :: a, b, h, s => by
    have hx : x ∈ b := s x List.mem_cons_self
    have hn := List.nodup_cons.mp h
    have := sub_len (a := a) (b := b.erase x) hn.2 fun y hy => (List.mem_erase_of_ne (by rintro rfl; exact hn.1 hy)).mpr (s y (List.mem_cons_of_mem _ hy))
    rw [List.length_erase_of_mem hx] at this
    have : 0 < b.length := List.length_pos_of_mem hx
    rw [List.length_cons]
    omega
theorem below_len {l : List Nat} {k : Nat} (h : ∀ j, j < k → j ∈ l) : k ≤ l.length := by
  have := sub_len (a := List.range k) (b := l) List.nodup_range fun x hx => h x (List.mem_range.mp hx)
  rwa [List.length_range] at this
theorem leastNot_is {l : List Nat} {k : Nat} (h1 : k ∉ l) (h2 : ∀ j, j < k → j ∈ l) : leastNot l = k := by
  unfold leastNot
  have : (List.range (l.length + 1)).find? (fun k => !l.contains k) = some k := by
    rw [List.find?_range_eq_some]
    refine ⟨by simpa using h1, List.mem_range.mpr (by have := below_len h2; omega), fun j hj => ?_⟩
    simpa using h2 j hj
  rw [this]
  rfl

/-! ### colours -/
def colStep (g : G) (l : List (Nat × Nat)) (v : Nat) : List (Nat × Nat) := l ++ [(v, leastNot ((l.filter fun x => joined g x.1 v).map fun x => x.2))]
def colTo (g : G) (o : List Nat) (i : Nat) : List (Nat × Nat) := (o.reverse.take i).foldl (colStep g) []
theorem colStep_fst {g : G} : ∀ (o : List Nat) (l : List (Nat × Nat)), (o.foldl (colStep g) l).map (·.1) = l.map (·.1) ++ o
  | [], l => by simp
  | v :: o, l => by
    show (o.foldl (colStep g) (colStep g l v)).map (·.1) = _
    rw [colStep_fst o]
    unfold colStep
    simp
theorem colTo_fst (g : G) (o : List Nat) (i : Nat) : (colTo g o i).map (·.1) = o.reverse.take i := by
  unfold colTo
  rw [colStep_fst]
  rfl
theorem colTo_succ {g : G} {o : List Nat} {i : Nat} (hi : i < o.length) : colTo g o (i + 1) = colStep g (colTo g o i) (o.reverse.getD i 0) := by
  have hi' : i < o.reverse.length := by rw [List.length_reverse]; exact hi
  unfold colTo
  rw [List.take_succ_eq_append_getElem hi', List.foldl_append, List.getD_eq_getElem?_getD, List.getElem?_eq_getElem hi']
  rfl
structure Col (g : G) (o : List Nat) (i : Nat) (c : List Nat) (m : Nat) : Prop where
  len : c.length = g.length
  val : ∀ x ∈ colTo g o i, c.getD x.1 0 = x.2
  mask : ∀ v, m.testBit v = true ↔ v ∈ o.reverse.take i
  lt : m < 2 ^ g.length
theorem getD_set {c : List Nat} {u k v : Nat} (hu : u < c.length) : (c.set u k).getD v 0 = if v = u then k else c.getD v 0 := by
  rw [List.getD_eq_getElem?_getD, List.getElem?_set]
  by_cases e : u = v
  · subst e
    rw [if_pos rfl, if_pos hu, if_pos rfl]
    rfl
  · rw [if_neg e, if_neg (fun z => e z.symm), List.getD_eq_getElem?_getD]
theorem col_start {g : G} {o : List Nat} (ho : o.length = g.length) : Col g o 0 (o.map fun _ => 0) 0 := by
  refine ⟨by rw [List.length_map]; exact ho, fun x hx => ?_, fun v => ?_, Nat.two_pow_pos _⟩
  · have hx : x ∈ ([] : List (Nat × Nat)) := by
      have := colTo_fst g o 0
      unfold colTo at hx
      simpa using hx
    cases hx
  · rw [Nat.zero_testBit]; simp
theorem rev_take_new {o : List Nat} (hn : o.Nodup) {i : Nat} (hi : i < o.length) : o.reverse.getD i 0 ∉ o.reverse.take i := by
  intro h
  have hn' : o.reverse.Nodup := ((List.reverse_perm o).nodup_iff).mpr hn
  obtain ⟨j, hj, hjl, e⟩ := mem_take_getD h
  have hi' : i < o.reverse.length := by rw [List.length_reverse]; exact hi
  rw [List.getD_eq_getElem?_getD, List.getD_eq_getElem?_getD, List.getElem?_eq_getElem hjl, List.getElem?_eq_getElem hi'] at e
  have e : o.reverse[j] = o.reverse[i] := e
  have := (List.getElem_inj hn').mp e
  omega
theorem col_step {g : G} (hg : Gr g) {o : List Nat} (hn : o.Nodup) (ho : ∀ x ∈ o, x < g.length) {i m k : Nat} {c : List Nat} (C : Col g o i c m) (hi : i < o.length)
    (h1 : k ∉ (ofMask (g.getD (o.reverse.getD i 0) 0 &&& m)).map fun v => c.getD v 0) (h2 : ∀ j, j < k → j ∈ (ofMask (g.getD (o.reverse.getD i 0) 0 &&& m)).map fun v => c.getD v 0) :
    Col g o (i + 1) (c.set (o.reverse.getD i 0) k) (m ||| 2 ^ o.reverse.getD i 0) := by
  have hi' : i < o.reverse.length := by rw [List.length_reverse]; exact hi
  have hu : o.reverse.getD i 0 < g.length := ho _ (List.mem_reverse.mp (getD_mem' hi'))
  have new := rev_take_new hn hi
  have m32 : m < 2 ^ 32 := Nat.lt_of_lt_of_le C.lt hg.pow32
  have et : o.reverse.take (i + 1) = o.reverse.take i ++ [o.reverse.getD i 0] := by
    rw [List.take_succ_eq_append_getElem hi', List.getD_eq_getElem?_getD, List.getElem?_eq_getElem hi']
    rfl
  rw [← colTo_fst g] at new
  generalize hv : o.reverse.getD i 0 = u at *
  have same : ∀ j, j ∈ (ofMask (g.getD u 0 &&& m)).map (fun v => c.getD v 0) ↔ j ∈ ((colTo g o i).filter fun x => joined g x.1 u).map fun x => x.2 := by
    intro j
    rw [List.mem_map, List.mem_map]
    constructor
    · rintro ⟨v, hv, rfl⟩
      have hb := (mem_of.mp hv).2
      rw [Nat.testBit_and, Bool.and_eq_true, C.mask, ← colTo_fst g, List.mem_map] at hb
      obtain ⟨x, hx, rfl⟩ := hb.2
      refine ⟨x, List.mem_filter.mpr ⟨hx, ?_⟩, (C.val x hx).symm⟩
      rw [hg.sym]
      exact hb.1
    · rintro ⟨x, hx, rfl⟩
      obtain ⟨hx, j⟩ := List.mem_filter.mp hx
      refine ⟨x.1, (mem_ofB (and_lt m32)).mpr ?_, C.val x hx⟩
      rw [hg.sym] at j
      rw [Nat.testBit_and, Bool.and_eq_true, C.mask, ← colTo_fst g]
      exact ⟨j, List.mem_map_of_mem hx⟩
  have ek : leastNot (((colTo g o i).filter fun x => joined g x.1 u).map fun x => x.2) = k := leastNot_is (fun z => h1 ((same k).mpr z)) fun j hj => (same j).mp (h2 j hj)
  refine ⟨by rw [List.length_set]; exact C.len, fun x hx => ?_, fun v => ?_, ?_⟩
  · rw [colTo_succ hi, hv] at hx
    unfold colStep at hx
    rw [ek] at hx
    rw [getD_set (by rw [C.len]; exact hu)]
    rcases List.mem_append.mp hx with z | z
    · rw [if_neg (fun e => new (by rw [← e]; exact List.mem_map_of_mem z))]
      exact C.val x z
    · rw [List.mem_singleton.mp z, if_pos rfl]
  · rw [et, Nat.testBit_or, tb_pow, Bool.or_eq_true, C.mask, decide_eq_true_eq, List.mem_append, List.mem_singleton]
    exact ⟨fun h => h.imp id Eq.symm, fun h => h.imp id Eq.symm⟩
  · exact Nat.or_lt_two_pow C.lt (Nat.pow_lt_pow_right (by decide) hu)
theorem col_end {g : G} (hg : Gr g) {o : List Nat} (hn : o.Nodup) (ho : ∀ x, x ∈ o ↔ x < g.length) {m : Nat} {c : List Nat} (C : Col g o o.length c m) : c = (points g).map (colourOf g o) := by
  have full : colTo g o o.length = coloured g o := by
    unfold colTo coloured
    rw [show o.length = o.reverse.length from (List.length_reverse).symm, List.take_length]
    rfl
  have V := C.val
  rw [full] at V
  have fst : (coloured g o).map (·.1) = o.reverse := by
    rw [← full, colTo_fst, show o.length = o.reverse.length from (List.length_reverse).symm, List.take_length]
  refine List.ext_getElem? fun v => ?_
  rw [List.getElem?_map]
  unfold points
  rcases Nat.lt_or_ge v g.length with z | z
  · rw [List.getElem?_eq_getElem (by rw [C.len]; exact z), List.getElem?_eq_getElem (by rw [List.length_range]; exact z), List.getElem_range]
    show some _ = some (colourOf g o v)
    congr 1
    have hv : v ∈ (coloured g o).map (·.1) := by rw [fst, List.mem_reverse]; exact (ho v).mpr z
    obtain ⟨y, hy, ey⟩ := List.mem_map.mp hv
    unfold colourOf
    cases q : (coloured g o).find? fun x => x.1 == v with
    | none =>
      have := List.find?_eq_none.mp q y hy
      rw [beq_iff_eq] at this
      exact absurd ey this
    | some x =>
      have h1 := List.find?_some q
      have h2 := V x (List.mem_of_find?_eq_some q)
      rw [beq_iff_eq] at h1
      rw [h1, List.getD_eq_getElem?_getD, List.getElem?_eq_getElem (by rw [C.len]; exact z)] at h2
      exact h2
  · rw [List.getElem?_eq_none (by rw [C.len]; exact z), List.getElem?_eq_none (by rw [List.length_range]; exact z)]
    rfl
end Gm
namespace Gm
theorem first_at {x : Nat} : ∀ {l : List Nat}, x ∈ l → ∃ j, j < l.length ∧ l.getD j 0 = x ∧ ∀ i, i < j → l.getD i 0 ≠ x
  | [], h => by cases h
  | a :: l, h => by
    by_cases e : a = x
    · exact ⟨0, by simp, e, fun i hi => absurd hi (Nat.not_lt_zero _)⟩
    · obtain ⟨j, h1, h2, h3⟩ := first_at (l := l) (by
        rcases List.mem_cons.mp h with z | z
        · exact absurd z.symm e
        · exact z)
      refine ⟨j + 1, by simpa using h1, h2, fun i hi => ?_⟩
      cases i with
      | zero => exact e
      | succ i => exact h3 i (by omega)
end Gm

set_option linter.all false
namespace Gm
open Sa79

/-! ### rising rows -/
theorem zip_rising : ∀ r : List Nat, ((r.zip (r.drop 1)).all fun x => decide (x.1 < x.2)) = true ↔ r.Pairwise (· < ·)
  | [] => by simp
  | [a] => by simp
  | a :: b :: r => by
    have ih := zip_rising (b :: r)
    show ((((a, b) :: (b :: r).zip r).all fun x => decide (x.1 < x.2)) = true) ↔ _
    rw [List.all_cons, Bool.and_eq_true, decide_eq_true_eq]
    have e : ((b :: r).zip ((b :: r).drop 1)) = (b :: r).zip r := rfl
    rw [e] at ih
    rw [ih]
    constructor
    · rintro ⟨h1, h2⟩
      refine List.pairwise_cons.mpr ⟨fun x hx => ?_, h2⟩
      rcases List.mem_cons.mp hx with z | z
      · rw [z]; exact h1
      · have := (List.pairwise_cons.mp h2).1 x z
        have h1 : a < b := h1
        omega
    · intro h
      obtain ⟨h1, h2⟩ := List.pairwise_cons.mp h
      exact ⟨h1 b List.mem_cons_self, h2⟩
theorem mem_sets {n k : Nat} {r : List Nat} : r ∈ sets n k ↔ r.length = k ∧ (∀ x ∈ r, x < n) ∧ r.Pairwise (· < ·) := by
  unfold sets
  rw [List.mem_filter, mem_rows, zip_rising]
  exact ⟨fun h => ⟨h.1.1, h.1.2, h.2⟩, fun h => ⟨⟨h.1, h.2.1⟩, h.2.2⟩⟩
theorem sets_sorted (n k : Nat) : (sets n k).Pairwise Lt := List.Pairwise.filter _ (rows_sorted n k)
theorem sets_some {n k : Nat} {p : List Nat → Bool} {r : List Nat} (hr : r ∈ sets n k) (pr : p r = true) (best : ∀ s ∈ sets n k, p s = true → ¬ Lt s r) : (sets n k).find? p = some r := by
  cases q : (sets n k).find? p with
  | none => exact absurd pr (List.find?_eq_none.mp q _ hr)
  | some x =>
    rcases find_least (sets_sorted n k) q r hr pr with e | lt
    · rw [e]
    · exact absurd lt (best x (List.mem_of_find?_eq_some q) (List.find?_some q))
theorem sets_none {n k : Nat} {p : List Nat → Bool} (h : ∀ r ∈ sets n k, p r = false) : (sets n k).find? p = none := List.find?_eq_none.mpr fun r hr z => by rw [h r hr] at z; cases z
theorem mem4 {n : Nat} {r : List Nat} : r ∈ sets n 4 ↔ ∃ a b c d, r = [a, b, c, d] ∧ a < b ∧ b < c ∧ c < d ∧ d < n := by
  rw [mem_sets]
  constructor
  · rintro ⟨h1, h2, h3⟩
    match r, h1 with
    | [a, b, c, d], _ =>
      refine ⟨a, b, c, d, rfl, ?_, ?_, ?_, h2 d (by simp)⟩
      · simp at h3; omega
      · simp at h3; omega
      · simp at h3; omega
  · rintro ⟨a, b, c, d, rfl, h1, h2, h3, h4⟩
    refine ⟨rfl, fun x hx => ?_, ?_⟩
    · simp at hx; omega
    · simp; omega
theorem mem5 {n : Nat} {r : List Nat} : r ∈ sets n 5 ↔ ∃ a b c d e, r = [a, b, c, d, e] ∧ a < b ∧ b < c ∧ c < d ∧ d < e ∧ e < n := by
  rw [mem_sets]
  constructor
  · rintro ⟨h1, h2, h3⟩
    match r, h1 with
    | [a, b, c, d, e], _ =>
      refine ⟨a, b, c, d, e, rfl, ?_, ?_, ?_, ?_, h2 e (by simp)⟩
      · simp at h3; omega
      · simp at h3; omega
      · simp at h3; omega
      · simp at h3; omega
  · rintro ⟨a, b, c, d, e, rfl, h1, h2, h3, h4, h5⟩
    refine ⟨rfl, fun x hx => ?_, ?_⟩
    · simp at hx; omega
    · simp; omega
theorem lt4 {a b c d a' b' c' d' : Nat} : Lt [a', b', c', d'] [a, b, c, d] ↔ a' < a ∨ (a' = a ∧ (b' < b ∨ (b' = b ∧ (c' < c ∨ (c' = c ∧ d' < d))))) := by
  unfold Lt Lt Lt Lt Lt
  simp
theorem lt5 {a b c d e a' b' c' d' e' : Nat} : Lt [a', b', c', d', e'] [a, b, c, d, e] ↔ a' < a ∨ (a' = a ∧ (b' < b ∨ (b' = b ∧ (c' < c ∨ (c' = c ∧ (d' < d ∨ (d' = d ∧ e' < e))))))) := by
  unfold Lt Lt Lt Lt Lt Lt
  simp

/-! ### steps, over masks -/
def nearOf (g : G) (left v : Nat) : Nat := ((ofMask left).filter fun u => joined g u v).length
theorem near_mask {g : G} (hg : Gr g) (left v : Nat) : (ofMask left).filter (fun u => joined g u v) = ofMask (g.getD v 0 &&& left) := by
  rw [Nat.and_comm, of_and]
  refine List.filter_congr fun u _ => ?_
  rw [hg.sym]
  rfl
theorem near_zero {g : G} (hg : Gr g) {left v : Nat} (hl : left < 2 ^ 32) : nearOf g left v = 0 ↔ g.getD v 0 &&& left = 0 := by
  unfold nearOf
  rw [near_mask hg]
  constructor
  · exact fun h => (of_nil (and_lt hl)).mp (List.eq_nil_of_length_eq_zero h)
  · intro h
    rw [h, of_zero]
    rfl
theorem near_all {g : G} (hg : Gr g) {left v : Nat} (hl : left < 2 ^ 32) (hv : left.testBit v = true) : nearOf g left v + 1 = (ofMask left).length ↔ g.getD v 0 &&& left = wo left (2 ^ v) := by
  have hm : v ∈ ofMask left := (mem_ofB hl).mpr hv
  have len := length_without hm
  have sub : ∀ i, (g.getD v 0 &&& left).testBit i = true → (wo left (2 ^ v)).testBit i = true := fun i hi => by
    rw [Nat.testBit_and, Bool.and_eq_true] at hi
    rw [tb_wo, hi.2, Bool.true_and, tb_pow]
    have : v ≠ i := hg.ne hi.1
    rw [decide_eq_false this]
    rfl
  unfold nearOf
  rw [near_mask hg, len]
  constructor
  · intro h
    have h : (ofMask (g.getD v 0 &&& left)).length = (ofMask (wo left (2 ^ v))).length := by omega
    refine ext fun i => ?_
    cases q : (g.getD v 0 &&& left).testBit i with
    | true => exact (sub i q).symm
    | false =>
      cases q2 : (wo left (2 ^ v)).testBit i with
      | false => rfl
      | true =>
        exfalso
        have i32 := tb_lt (wo_lt hl) q2
        have := sub_len (a := i :: ofMask (g.getD v 0 &&& left)) (b := ofMask (wo left (2 ^ v))) (List.nodup_cons.mpr ⟨fun z => (by rw [(mem_of.mp z).2] at q; exact absurd q (by decide)), of_nodup _⟩) fun x hx => by
          rcases List.mem_cons.mp hx with z | z
          · rw [z]; exact mem_of.mpr ⟨i32, q2⟩
          · exact mem_of.mpr ⟨(mem_of.mp z).1, sub x (mem_of.mp z).2⟩
        rw [List.length_cons] at this
        omega
  · intro h
    rw [h]
def goes (g : G) (left v : Nat) : Bool := nearOf g left v == 0 || nearOf g left v + 1 == (ofMask left).length
def canStep (g : G) (left : Nat) : List Nat := (ofMask left).filter (goes g left)
theorem goes_iff {g : G} (hg : Gr g) {left v : Nat} (hl : left < 2 ^ 32) (hv : left.testBit v = true) : goes g left v = true ↔ g.getD v 0 &&& left = 0 ∨ g.getD v 0 &&& left = wo left (2 ^ v) := by
  unfold goes
  rw [Bool.or_eq_true, beq_iff_eq, beq_iff_eq, near_zero hg hl, near_all hg hl hv]
def stepName (g : G) (left v : Nat) : Nat := if g.getD v 0 &&& left = 0 then v else v + 128
structure Stepping (g : G) (o : List Nat) (left : Nat) : Prop where
  eq : stepsFrom g (g.length + 1) (points g) = (stepsFrom g ((ofMask left).length + 1) (ofMask left)).map (o ++ ·)
  len : o.length + (ofMask left).length = g.length
  lt : left < 2 ^ g.length
theorem steps_nil (g : G) (f : Nat) : stepsFrom g f [] = some [] := by cases f <;> rfl
theorem stepping_start {g : G} (h : Gr g) : Stepping g [] (2 ^ g.length - 1) := by
  have hp := h.points
  have hl : (ofMask (2 ^ g.length - 1)).length = g.length := by rw [← hp, len_points]
  refine ⟨?_, by rw [hl]; simp, by have := Nat.two_pow_pos g.length; omega⟩
  rw [hl, ← hp]
  cases stepsFrom g (g.length + 1) (points g) with
  | none => rfl
  | some r => rfl
theorem steps_find {g : G} (left : Nat) : (ofMask left).find? (fun v => ((ofMask left).filter fun u => joined g u v).length == 0 || ((ofMask left).filter fun u => joined g u v).length + 1 == (ofMask left).length) = (canStep g left).head? := by
  unfold canStep
  rw [List.head?_filter]
  rfl
theorem stepping_step {g : G} (h : Gr g) {o : List Nat} {left v : Nat} {r : List Nat} (I : Stepping g o left) (e : canStep g left = v :: r) : Stepping g (o ++ [stepName g left v]) (wo left (2 ^ v)) := by
  have l32 : left < 2 ^ 32 := Nat.lt_of_lt_of_le I.lt h.pow32
  have hv : v ∈ ofMask left := by
    have : v ∈ canStep g left := by rw [e]; exact List.mem_cons_self
    exact (List.mem_filter.mp this).1
  have hl := length_without hv
  have q := steps_find (g := g) left
  rw [e] at q
  have q : (ofMask left).find? (fun v => ((ofMask left).filter fun u => joined g u v).length == 0 || ((ofMask left).filter fun u => joined g u v).length + 1 == (ofMask left).length) = some v := q
  have ne : ∃ x xs, ofMask left = x :: xs := by
    cases z : ofMask left with
    | nil => rw [z] at hv; cases hv
    | cons x xs => exact ⟨x, xs, rfl⟩
  have one : stepsFrom g ((ofMask left).length + 1) (ofMask left) = (stepsFrom g (ofMask left).length ((ofMask left).filter fun u => u != v)).map fun s => stepName g left v :: s := by
    obtain ⟨x, xs, ex⟩ := ne
    have : stepsFrom g ((ofMask left).length + 1) (ofMask left) = (match (ofMask left).find? (fun v => ((ofMask left).filter fun u => joined g u v).length == 0 || ((ofMask left).filter fun u => joined g u v).length + 1 == (ofMask left).length) with
      | some v => (stepsFrom g (ofMask left).length ((ofMask left).filter fun u => u != v)).map fun r => (if ((ofMask left).filter fun u => joined g u v).length = 0 then v else v + 128) :: r
      | none => none) := by
      rw [ex]
      rfl
    rw [this, q]
    simp only
    have en : (if ((ofMask left).filter fun u => joined g u v).length = 0 then v else v + 128) = stepName g left v := by
      unfold stepName
      have := near_zero h (v := v) l32
      unfold nearOf at this
      by_cases z : ((ofMask left).filter fun u => joined g u v).length = 0
      · rw [if_pos z, if_pos (this.mp z)]
      · rw [if_neg z, if_neg (fun y => z (this.mpr y))]
    rw [en]
  refine ⟨?_, ?_, wo_lt I.lt⟩
  · rw [I.eq, one, of_without, hl]
    cases stepsFrom g ((ofMask (wo left (2 ^ v))).length + 1) (ofMask (wo left (2 ^ v))) with
    | none => rfl
    | some s => simp
  · have := I.len
    rw [List.length_append, List.length_singleton]
    omega
theorem stepping_end {g : G} (h : Gr g) {o : List Nat} {left : Nat} (I : Stepping g o left) (e : canStep g left = []) : (stepsFrom g (g.length + 1) (points g) = some o ∧ o.length = g.length) ∨ (stepsFrom g (g.length + 1) (points g) = none ∧ o.length < g.length) := by
  have l32 : left < 2 ^ 32 := Nat.lt_of_lt_of_le I.lt h.pow32
  have q := steps_find (g := g) left
  rw [e] at q
  have q : (ofMask left).find? (fun v => ((ofMask left).filter fun u => joined g u v).length == 0 || ((ofMask left).filter fun u => joined g u v).length + 1 == (ofMask left).length) = none := q
  have len := I.len
  cases z : ofMask left with
  | nil =>
    left
    refine ⟨?_, by rw [z] at len; simpa using len⟩
    rw [I.eq, z, steps_nil]
    simp
  | cons x xs =>
    right
    refine ⟨?_, by rw [z, List.length_cons] at len; omega⟩
    have : stepsFrom g ((ofMask left).length + 1) (ofMask left) = (match (ofMask left).find? (fun v => ((ofMask left).filter fun u => joined g u v).length == 0 || ((ofMask left).filter fun u => joined g u v).length + 1 == (ofMask left).length) with
      | some v => (stepsFrom g (ofMask left).length ((ofMask left).filter fun u => u != v)).map fun r => (if ((ofMask left).filter fun u => joined g u v).length = 0 then v else v + 128) :: r
      | none => none) := by
      rw [z]
      rfl
    rw [I.eq, this, q]
    rfl
end Gm

set_option linter.all false
namespace Gm
open Sa79

/-! ### by how many are joined -/
theorem degree_pop {g : G} (hg : Gr g) (v : Nat) : degree g v = (ofMask (g.getD v 0)).length := by
  unfold degree
  rw [hg.points, near_mask hg]
  congr 2
  refine ext fun i => ?_
  rw [Nat.testBit_and, Nat.testBit_two_pow_sub_one]
  cases q : (g.getD v 0).testBit i with
  | false => rfl
  | true => rw [decide_eq_true (tb_ltn (hg.small v) q)]; rfl
theorem degree_le {g : G} (hg : Gr g) (v : Nat) : degree g v ≤ 32 := by
  rw [degree_pop hg]
  exact of_length _
def DLt (g : G) (u v : Nat) : Prop := degree g v < degree g u ∨ (degree g u = degree g v ∧ u < v)
theorem DLt.asymm {g : G} {u v : Nat} (h : DLt g u v) (h' : DLt g v u) : False := by
  unfold DLt at h h'
  omega
theorem DLt.irr {g : G} {u : Nat} (h : DLt g u u) : False := h.asymm h
theorem by_mem {g : G} (hg : Gr g) {v : Nat} : v ∈ byDegree g ↔ v < g.length := by
  unfold byDegree points
  simp only [List.mem_flatMap, List.mem_filter, List.mem_range, beq_iff_eq]
  constructor
  · rintro ⟨d, _, h, _⟩
    exact h
  · intro h
    have := degree_le hg v
    exact ⟨32 - degree g v, by omega, h, by omega⟩
theorem by_sorted {g : G} : (byDegree g).Pairwise (DLt g) := by
  unfold byDegree
  refine List.pairwise_flatMap.mpr ⟨fun d _ => ?_, ?_⟩
  · refine List.Pairwise.imp_of_mem (fun {a b} ha hb h => ?_) (List.Pairwise.filter _ (List.pairwise_lt_range (n := g.length)))
    have h1 := beq_iff_eq.mp (List.mem_filter.mp ha).2
    have h2 := beq_iff_eq.mp (List.mem_filter.mp hb).2
    exact .inr ⟨by omega, h⟩
  · refine List.pairwise_lt_range.imp fun {d d'} h x hx y hy => ?_
    have h1 := beq_iff_eq.mp (List.mem_filter.mp hx).2
    have h2 := beq_iff_eq.mp (List.mem_filter.mp hy).2
    exact .inl (by omega)
theorem by_nodup {g : G} : (byDegree g).Nodup := by_sorted.imp fun {a b} h => by rintro rfl; exact h.irr
theorem by_perm {g : G} (hg : Gr g) : (byDegree g).Perm (points g) := (List.perm_ext_iff_of_nodup by_nodup List.nodup_range).mpr fun x => by
  rw [by_mem hg]
  exact List.mem_range.symm
theorem by_len {g : G} (hg : Gr g) : (byDegree g).length = g.length := by rw [(by_perm hg).length_eq, len_points]
theorem sorted_uniq {R : Nat → Nat → Prop} (as : ∀ {a b}, R a b → ¬ R b a) : ∀ {l m : List Nat}, l.Perm m → l.Pairwise R → m.Pairwise R → l = m
  | [], m, p, _, _ => (List.nil_perm.mp p).symm
  | a :: l, [], p, _, _ => absurd p.length_eq (by simp)
  | a :: l, b :: m, p, sl, sm => by
    obtain ⟨s1, s2⟩ := List.pairwise_cons.mp sl
    obtain ⟨t1, t2⟩ := List.pairwise_cons.mp sm
    have e : a = b := by
      rcases List.mem_cons.mp (p.mem_iff.mp List.mem_cons_self) with z | z
      · exact z
      · rcases List.mem_cons.mp (p.mem_iff.mpr List.mem_cons_self) with y | y
        · exact y.symm
        · exact absurd (s1 b y) (as (t1 a z))
    subst e
    rw [sorted_uniq as ((List.perm_cons a).mp p) s2 t2]
/-- any row of all points so sorted is the one -/
theorem by_is {g : G} (hg : Gr g) {l : List Nat} (p : l.Perm (points g)) (s : l.Pairwise (DLt g)) : l = byDegree g :=
  sorted_uniq (R := DLt g) (fun h h' => h.asymm h') (p.trans (by_perm hg).symm) s by_sorted
theorem by_down {g : G} {i j : Nat} (hij : i ≤ j) (hj : j < (byDegree g).length) : degree g ((byDegree g).getD j 0) ≤ degree g ((byDegree g).getD i 0) := by
  rcases Nat.lt_or_ge i j with z | z
  · have := List.pairwise_iff_getElem.mp (by_sorted (g := g)) i j (by omega) hj z
    rw [List.getD_eq_getElem?_getD, List.getD_eq_getElem?_getD, List.getElem?_eq_getElem hj, List.getElem?_eq_getElem (by omega)]
    show degree g (byDegree g)[j] ≤ degree g (byDegree g)[i]
    unfold DLt at this
    omega
  · have : i = j := by omega
    rw [this]
    exact Nat.le_refl _
theorem fold_max_is {l : List Nat} {m : Nat} (h1 : m = 0 ∨ m ∈ l) (h2 : ∀ x ∈ l, x ≤ m) : l.foldl max 0 = m := by
  have key : ∀ (l : List Nat) (a : Nat), (∀ x ∈ l, x ≤ l.foldl max a) ∧ a ≤ l.foldl max a ∧ (l.foldl max a = a ∨ l.foldl max a ∈ l) := by
    intro l
    induction l with
    | nil => exact fun a => ⟨fun x hx => (by cases hx), Nat.le_refl _, .inl rfl⟩
    | cons b l ih =>
      intro a
      obtain ⟨i1, i2, i3⟩ := ih (max a b)
      rw [List.foldl_cons]
      refine ⟨fun x hx => ?_, by omega, ?_⟩
      · rcases List.mem_cons.mp hx with z | z
        · rw [z]; omega
        · exact i1 x z
      · rcases i3 with z | z
        · rw [z]
          rcases Nat.le_total a b with y | y
          · rw [Nat.max_eq_right y]; exact .inr List.mem_cons_self
          · rw [Nat.max_eq_left y]; exact .inl rfl
        · exact .inr (List.mem_cons_of_mem _ z)
  obtain ⟨k1, _, k3⟩ := key l 0
  have le : l.foldl max 0 ≤ m := by
    rcases k3 with z | z
    · omega
    · exact h2 _ z
  rcases h1 with z | z
  · omega
  · have := k1 m z
    omega
/-- the last place m whose point has m - 1 or more -/
theorem part_is {g : G} {m : Nat} (hm : m ≤ (byDegree g).length) (h1 : m = 0 ∨ m - 1 ≤ degree g ((byDegree g).getD (m - 1) 0)) (h2 : ∀ i, m ≤ i → i < (byDegree g).length → ¬ i ≤ degree g ((byDegree g).getD i 0)) : partOf g = (byDegree g).take m := by
  show (byDegree g).take _ = _
  congr 1
  refine fold_max_is ?_ fun x hx => ?_
  · by_cases z : m = 0
    · exact .inl z
    · right
      rw [List.mem_map]
      refine ⟨m - 1, List.mem_filter.mpr ⟨List.mem_range.mpr (by omega), decide_eq_true ?_⟩, by omega⟩
      rcases h1 with y | y
      · omega
      · exact y
  · obtain ⟨i, hi, rfl⟩ := List.mem_map.mp hx
    obtain ⟨hr, hd⟩ := List.mem_filter.mp hi
    rcases Nat.lt_or_ge i m with z | z
    · omega
    · exact absurd (of_decide_eq_true hd) (h2 i z (List.mem_range.mp hr))
/-- one that fails lets all behind it fail -/
theorem part_mono {g : G} {i j : Nat} (hij : i ≤ j) (hj : j < (byDegree g).length) (h : ¬ i ≤ degree g ((byDegree g).getD i 0)) : ¬ j ≤ degree g ((byDegree g).getD j 0) := by
  have := by_down hij hj
  omega
theorem clique_ext {g : G} {a b : List Nat} (h : ∀ x, x ∈ a ↔ x ∈ b) : isClique g a = isClique g b := by
  rw [Bool.eq_iff_iff, clique_iff, clique_iff]
  exact ⟨fun z u hu v hv ne => z u ((h u).mpr hu) v ((h v).mpr hv) ne, fun z u hu v hv ne => z u ((h u).mp hu) v ((h v).mp hv) ne⟩
theorem apart_iff {g : G} {l : List Nat} : isApart g l = true ↔ ∀ u ∈ l, ∀ v ∈ l, joined g u v = false := by
  unfold isApart
  simp only [List.all_eq_true, Bool.not_eq_true']
theorem apart_ext {g : G} {a b : List Nat} (h : ∀ x, x ∈ a ↔ x ∈ b) : isApart g a = isApart g b := by
  rw [Bool.eq_iff_iff, apart_iff, apart_iff]
  exact ⟨fun z u hu v hv => z u ((h u).mpr hu) v ((h v).mpr hv), fun z u hu v hv => z u ((h u).mp hu) v ((h v).mp hv)⟩
theorem mem_mask_of {l : List Nat} (hl : ∀ x ∈ l, x < 32) (x : Nat) : x ∈ ofMask (maskOf l) ↔ x ∈ l := by rw [mem_ofB (mask_lt l), tb_mask_iff hl]
end Gm

set_option linter.all false
namespace Gm
open Sa79

/-! ### four points: by which of the six ways there are -/
/-- p, u: a b, c d; q, t: a c, b d; r, s: a d, b c -/
def fourB (p q r s t u : Bool) : Bool :=
  (p && (u && (!q && (!r && (!s && !t))))) || ((q && (t && (!p && (!r && (!s && !u))))) || ((r && (s && (!p && (!q && (!t && !u))))) ||
  ((p && (u && (q && (t && (!r && !s))))) || ((p && (u && (r && (s && (!q && !t))))) || (q && (t && (r && (s && (!p && !u)))))))))
def len3 (x y z : Bool) : Nat := (if x then 1 else 0) + (if y then 1 else 0) + (if z then 1 else 0)
theorem filter4 (f : Nat → Bool) (a b c d : Nat) : ([a, b, c, d].filter f).length = (if f a then 1 else 0) + (if f b then 1 else 0) + (if f c then 1 else 0) + (if f d then 1 else 0) := by
  simp only [List.filter_cons, List.filter_nil]
  cases f a <;> cases f b <;> cases f c <;> cases f d <;> rfl
theorem four4 {g : G} (hg : Gr g) (a b c d : Nat) : isFour g [a, b, c, d] = fourB (joined g a b) (joined g a c) (joined g a d) (joined g b c) (joined g b d) (joined g c d) := by
  unfold isFour
  simp only [List.all_cons, List.all_nil, filter4, hg.irr, hg.sym b a, hg.sym c a, hg.sym d a, hg.sym c b, hg.sym d b, hg.sym d c]
  generalize joined g a b = p
  generalize joined g a c = q
  generalize joined g a d = r
  generalize joined g b c = s
  generalize joined g b d = t
  generalize joined g c d = u
  revert p q r s t u
  decide
/-- inside the four each is joined to one or to two -/
def namedB (p q r s t u : Bool) : Bool := (p && u && !q && !t) || (p && u && !r && !s) || (q && t && !p && !u) || (q && t && !r && !s) || (r && s && !p && !u) || (r && s && !q && !t)
theorem namedB_iff : ∀ p q r s t u : Bool, namedB p q r s t u = ((len3 p q r == 1 || len3 p q r == 2) && ((len3 p s t == 1 || len3 p s t == 2) && ((len3 q s u == 1 || len3 q s u == 2) && (len3 r t u == 1 || len3 r t u == 2)))) := by
  decide
theorem any4 (f : Nat → Bool) (a b c d : Nat) : [a, b, c, d].any f = (f a || (f b || (f c || f d))) := by
  simp only [List.any_cons, List.any_nil, Bool.or_false]
theorem nd4 (a b c d : Nat) : decide [a, b, c, d].Nodup = (!(a == b) && (!(a == c) && (!(a == d) && (!(b == c) && (!(b == d) && !(c == d)))))) := by
  rw [Bool.eq_iff_iff, decide_eq_true_eq]
  simp only [List.nodup_cons, List.mem_cons, List.not_mem_nil, or_false, Bool.and_eq_true, Bool.not_eq_true', beq_eq_false_iff_ne, List.nodup_nil, not_or, not_false_eq_true, and_true, ne_eq]
  constructor
  · rintro ⟨⟨h1, h2, h3⟩, ⟨h4, h5⟩, h6⟩
    exact ⟨h1, h2, h3, h4, h5, h6⟩
  · rintro ⟨h1, h2, h3, h4, h5, h6⟩
    exact ⟨⟨h1, h2, h3⟩, ⟨h4, h5⟩, h6⟩
theorem named4 {g : G} (hg : Gr g) {a b c d : Nat} (h1 : a ≠ b) (h2 : a ≠ c) (h3 : a ≠ d) (h4 : b ≠ c) (h5 : b ≠ d) (h6 : c ≠ d) : named g [a, b, c, d] = namedB (joined g a b) (joined g a c) (joined g a d) (joined g b c) (joined g b d) (joined g c d) := by
  have e1 : (a == b) = false := beq_eq_false_iff_ne.mpr h1
  have e2 : (a == c) = false := beq_eq_false_iff_ne.mpr h2
  have e3 : (a == d) = false := beq_eq_false_iff_ne.mpr h3
  have e4 : (b == c) = false := beq_eq_false_iff_ne.mpr h4
  have e5 : (b == d) = false := beq_eq_false_iff_ne.mpr h5
  have e6 : (c == d) = false := beq_eq_false_iff_ne.mpr h6
  have f1 : (b == a) = false := beq_eq_false_iff_ne.mpr fun z => h1 z.symm
  have f2 : (c == a) = false := beq_eq_false_iff_ne.mpr fun z => h2 z.symm
  have f3 : (d == a) = false := beq_eq_false_iff_ne.mpr fun z => h3 z.symm
  have f4 : (c == b) = false := beq_eq_false_iff_ne.mpr fun z => h4 z.symm
  have f5 : (d == b) = false := beq_eq_false_iff_ne.mpr fun z => h5 z.symm
  have f6 : (d == c) = false := beq_eq_false_iff_ne.mpr fun z => h6 z.symm
  unfold named
  simp only [any4, nd4, e1, e2, e3, e4, e5, e6, f1, f2, f3, f4, f5, f6, beq_self_eq_true, Bool.not_true, Bool.not_false, Bool.false_and, Bool.and_false, Bool.true_and, Bool.or_false, Bool.false_or, hg.sym b a, hg.sym c a, hg.sym d a, hg.sym c b, hg.sym d b, hg.sym d c]
  generalize joined g a b = p
  generalize joined g a c = q
  generalize joined g a d = r
  generalize joined g b c = s
  generalize joined g b d = t
  generalize joined g c d = u
  revert p q r s t u
  decide
end Gm

set_option linter.all false
namespace Gm
open Sa79

/-! ### four points by how many of both pairs are joined, in three manners -/
def srt (x y z : Nat) : List Nat := [min x (min y z), x + y + z - min x (min y z) - max x (max y z), max x (max y z)]
theorem srt_is {x y z : Nat} {ns : List Nat} (p : ns.Perm [x, y, z]) (s : ns.Pairwise (· ≤ ·)) : ns = srt x y z := by
  have l := p.length_eq
  match ns, l with
  | [a, b, c], _ =>
    have h := fun w => p.mem_iff (a := w)
    simp only [List.mem_cons, List.not_mem_nil, or_false] at h
    have sm : a + b + c = x + y + z := by
      have := p.sum_nat
      simpa [Nat.add_assoc] using this
    simp only [List.pairwise_cons, List.mem_cons, List.not_mem_nil, or_false, forall_eq_or_imp, forall_eq] at s
    obtain ⟨⟨s1, s2⟩, s3, _⟩ := s
    have ha := (h a).mp (.inl rfl)
    have hb := (h b).mp (.inr (.inl rfl))
    have hc := (h c).mp (.inr (.inr rfl))
    have hx := (h x).mpr (.inl rfl)
    have hy := (h y).mpr (.inr (.inl rfl))
    have hz := (h z).mpr (.inr (.inr rfl))
    have e1 : a = min x (min y z) := by omega
    have e3 : c = max x (max y z) := by omega
    have e2 : b = x + y + z - min x (min y z) - max x (max y z) := by omega
    unfold srt
    rw [← e1, ← e3]
    congr
    omega
def kindOf (g : G) (a b c d : Nat) : List Nat := srt ((joined g a b).toNat + (joined g c d).toNat) ((joined g a c).toNat + (joined g b d).toNat) ((joined g a d).toNat + (joined g b c).toNat)
def inKinds (nss : List (List Nat)) (k : List Nat) : Bool := nss.any fun e => decide (e = k)
theorem kinds_four : ∀ p q r s t u : Bool, inKinds [[0, 0, 2], [0, 2, 2]] (srt (p.toNat + u.toNat) (q.toNat + t.toNat) (r.toNat + s.toNat)) = fourB p q r s t u := by
  decide
theorem kinds_named : ∀ p q r s t u : Bool, inKinds [[0, 0, 2], [0, 1, 2], [0, 2, 2]] (srt (p.toNat + u.toNat) (q.toNat + t.toNat) (r.toNat + s.toNat)) = namedB p q r s t u := by
  decide
theorem in_four {g : G} (hg : Gr g) (a b c d : Nat) : inKinds [[0, 0, 2], [0, 2, 2]] (kindOf g a b c d) = isFour g [a, b, c, d] := by
  rw [four4 hg]
  exact kinds_four _ _ _ _ _ _
theorem in_named {g : G} (hg : Gr g) {a b c d : Nat} (h1 : a < b) (h2 : b < c) (h3 : c < d) : inKinds [[0, 0, 2], [0, 1, 2], [0, 2, 2]] (kindOf g a b c d) = named g [a, b, c, d] := by
  rw [named4 hg (by omega) (by omega) (by omega) (by omega) (by omega) (by omega)]
  exact kinds_named _ _ _ _ _ _
theorem first_some {n : Nat} {t : List Nat → Bool} {a b c d : Nat} (h1 : a < b) (h2 : b < c) (h3 : c < d) (h4 : d < n) (ht : t [a, b, c, d] = true)
    (q1 : ∀ a' b' c' d', a' < a → a' < b' → b' < c' → c' < d' → d' < n → t [a', b', c', d'] = false)
    (q2 : ∀ b' c' d', b' < b → a < b' → b' < c' → c' < d' → d' < n → t [a, b', c', d'] = false)
    (q3 : ∀ c' d', c' < c → b < c' → c' < d' → d' < n → t [a, b, c', d'] = false)
    (q4 : ∀ d', d' < d → c < d' → d' < n → t [a, b, c, d'] = false) : (sets n 4).find? t = some [a, b, c, d] := by
  refine sets_some (mem4.mpr ⟨a, b, c, d, rfl, h1, h2, h3, h4⟩) ht fun s hs ts lt => ?_
  obtain ⟨a', b', c', d', rfl, k1, k2, k3, k4⟩ := mem4.mp hs
  rcases lt4.mp lt with z | ⟨rfl, z | ⟨rfl, z | ⟨rfl, z⟩⟩⟩
  · rw [q1 _ _ _ _ z k1 k2 k3 k4] at ts; cases ts
  · rw [q2 _ _ _ z k1 k2 k3 k4] at ts; cases ts
  · rw [q3 _ _ z k2 k3 k4] at ts; cases ts
  · rw [q4 _ z k3 k4] at ts; cases ts
end Gm

set_option linter.all false
namespace Gm
open Sa79

/-! ### what is due of the calls of stages 3 and 4 -/
theorem does_turns (g : List Nat) (n : Int) : does (.turns g n) = if good g n = false then ok (-2) else (match turns g with
    | .inl t => ⟨1, (points g).map fun u => maskOf ((t.filter fun x => x.1 == u).map fun x => x.2), (points g).map (heightOf t g.length)⟩
    | .inr x => ⟨0, [x.1, x.2], []⟩) := rfl
theorem due_turns (g : List Nat) : PySa79.pf_turns (g.map fun (n : Nat) => (n : Int)) = if isGraph g = false then ans (-2) [] [] else (match turns g with
    | .inl t => ans 1 ((points g).map fun u => maskOf ((t.filter fun x => x.1 == u).map fun x => x.2)) ((points g).map (heightOf t g.length))
    | .inr x => ans 0 [x.1, x.2] []) := by
  have e : Sa79Neutral.callOf [[5, ((g.map fun (n : Nat) => (n : Int)).length : Int)], g.map fun (n : Nat) => (n : Int)] = some (.turns g g.length) := by
    show some (Call.turns (Sa79Neutral.nats (g.map fun (n : Nat) => (n : Int))) _) = _
    rw [nats_cast, List.length_map]
  unfold PySa79.pf_turns
  rw [due g 5 _ e, does_turns, good_eq]
  cases isGraph g with
  | false => rfl
  | true =>
    simp only [Bool.true_eq_false, if_false]
    cases turns g <;> rfl
theorem does_rows (g : List Nat) (n : Int) : does (.rows g n) = if good g n = false then ok (-2) else (match turns g, turns (other g) with
    | .inr _, _ => ok 0
    | .inl _, .inr _ => ok 2
    | .inl t, .inl s => ⟨1, lined g (fun u v => t.contains (u, v) || s.contains (u, v)) ++ lined g fun u v => t.contains (v, u) || s.contains (u, v), []⟩) := rfl
theorem due_rows (g : List Nat) : PySa79.pf_rows (g.map fun (n : Nat) => (n : Int)) = if isGraph g = false then ans (-2) [] [] else (match turns g, turns (other g) with
    | .inr _, _ => ans 0 [] []
    | .inl _, .inr _ => ans 2 [] []
    | .inl t, .inl s => ans 1 (lined g (fun u v => t.contains (u, v) || s.contains (u, v)) ++ lined g fun u v => t.contains (v, u) || s.contains (u, v)) []) := by
  have e : Sa79Neutral.callOf [[6, ((g.map fun (n : Nat) => (n : Int)).length : Int)], g.map fun (n : Nat) => (n : Int)] = some (.rows g g.length) := by
    show some (Call.rows (Sa79Neutral.nats (g.map fun (n : Nat) => (n : Int))) _) = _
    rw [nats_cast, List.length_map]
  unfold PySa79.pf_rows
  rw [due g 6 _ e, does_rows, good_eq]
  cases isGraph g with
  | false => rfl
  | true =>
    simp only [Bool.true_eq_false, if_false]
    cases turns g with
    | inr _ => rfl
    | inl t => cases turns (other g) <;> rfl
theorem does_parts (g : List Nat) (n : Int) : does (.parts g n) = if good g n = false then ok (-2) else
    if (isClique g (partOf g) && isApart g ((points g).filter fun v => !(partOf g).contains v)) = true then ⟨1, [maskOf (partOf g)], []⟩ else ⟨0, [maskOf ((partWrong g).getD [])], []⟩ := rfl
theorem due_parts (g : List Nat) : PySa79.pf_parts (g.map fun (n : Nat) => (n : Int)) = if isGraph g = false then ans (-2) [] [] else
    if (isClique g (partOf g) && isApart g ((points g).filter fun v => !(partOf g).contains v)) = true then ans 1 [maskOf (partOf g)] [] else ans 0 [maskOf ((partWrong g).getD [])] [] := by
  have e : Sa79Neutral.callOf [[7, ((g.map fun (n : Nat) => (n : Int)).length : Int)], g.map fun (n : Nat) => (n : Int)] = some (.parts g g.length) := by
    show some (Call.parts (Sa79Neutral.nats (g.map fun (n : Nat) => (n : Int))) _) = _
    rw [nats_cast, List.length_map]
  unfold PySa79.pf_parts
  rw [due g 7 _ e, does_parts, good_eq]
  cases isGraph g with
  | false => rfl
  | true =>
    simp only [Bool.true_eq_false, if_false]
    split <;> rfl
theorem does_steps (g : List Nat) (n : Int) : does (.steps g n) = if good g n = false then ok (-2) else (match stepsFrom g (g.length + 1) (points g) with
    | some l => ⟨1, l, []⟩
    | none => ⟨0, ((sets g.length 4).find? (named g)).getD [], []⟩) := rfl
theorem due_steps (g : List Nat) : PySa79.pf_steps (g.map fun (n : Nat) => (n : Int)) = if isGraph g = false then ans (-2) [] [] else (match stepsFrom g (g.length + 1) (points g) with
    | some l => ans 1 l []
    | none => ans 0 (((sets g.length 4).find? (named g)).getD []) []) := by
  have e : Sa79Neutral.callOf [[8, ((g.map fun (n : Nat) => (n : Int)).length : Int)], g.map fun (n : Nat) => (n : Int)] = some (.steps g g.length) := by
    show some (Call.steps (Sa79Neutral.nats (g.map fun (n : Nat) => (n : Int))) _) = _
    rw [nats_cast, List.length_map]
  unfold PySa79.pf_steps
  rw [due g 8 _ e, does_steps, good_eq]
  cases isGraph g with
  | false => rfl
  | true =>
    simp only [Bool.true_eq_false, if_false]
    cases stepsFrom g (g.length + 1) (points g) <;> rfl
end Gm

set_option linter.all false
namespace Gx
open Gm PySem
theorem i_and (a b : Nat) : Builtin.bitAnd (a : Int) (b : Int) = ((a &&& b : Nat) : Int) := by
  unfold Builtin.bitAnd
  rw [decide_eq_true (Int.natCast_nonneg a), decide_eq_true (Int.natCast_nonneg b)]
  rfl
theorem i_not (b : Nat) : (Builtin.bitNot (Builtin.bitNot (b : Int))).toNat = b := by
  unfold Builtin.bitNot
  omega
theorem i_without (a b : Nat) : Builtin.bitAnd (a : Int) (Builtin.bitNot (b : Int)) = ((wo a b : Nat) : Int) := by
  have hb : ¬ (0 ≤ Builtin.bitNot (b : Int)) := by unfold Builtin.bitNot; omega
  unfold Builtin.bitAnd
  rw [decide_eq_true (Int.natCast_nonneg a), decide_eq_false hb]
  show (a : Int) - (((a : Int).toNat &&& (Builtin.bitNot (Builtin.bitNot (b : Int))).toNat : Nat) : Int) = _
  rw [i_not, Int.toNat_natCast]
  unfold wo
  have : a &&& b ≤ a := Nat.and_le_left
  omega
theorem i_or (a b : Nat) : Builtin.bitOr (a : Int) (b : Int) = ((a ||| b : Nat) : Int) := by
  have ha : ¬ (0 ≤ Builtin.bitNot (a : Int)) := by unfold Builtin.bitNot; omega
  have hb : ¬ (0 ≤ Builtin.bitNot (b : Int)) := by unfold Builtin.bitNot; omega
  unfold Builtin.bitOr Builtin.bitAnd
  rw [decide_eq_false ha, decide_eq_false hb]
  show Builtin.bitNot (Builtin.bitNot ((((Builtin.bitNot (Builtin.bitNot (a : Int))).toNat ||| (Builtin.bitNot (Builtin.bitNot (b : Int))).toNat : Nat)) : Int)) = _
  rw [i_not, i_not]
  unfold Builtin.bitNot
  omega
theorem i_low {a : Nat} (h : a < 2 ^ 32) (h0 : a ≠ 0) : Builtin.bitAnd (a : Int) (-(a : Int)) = ((2 ^ lp a : Nat) : Int) := by
  have hb : ¬ (0 ≤ -(a : Int)) := by omega
  unfold Builtin.bitAnd
  rw [decide_eq_true (Int.natCast_nonneg a), decide_eq_false hb]
  show (a : Int) - (((a : Int).toNat &&& (Builtin.bitNot (-(a : Int))).toNat : Nat) : Int) = _
  have e : (Builtin.bitNot (-(a : Int))).toNat = a - 1 := by unfold Builtin.bitNot; omega
  rw [e, Int.toNat_natCast, ← low_bit h h0]
  have : a &&& (a - 1) ≤ a := Nat.and_le_left
  omega
theorem i_bits (k : Nat) : Builtin.Int.intBits ((2 ^ k : Nat) : Int) = k + 1 := by
  unfold Builtin.Int.intBits
  have : ((2 ^ k : Nat) : Int) ≠ 0 := by
    have := Nat.two_pow_pos k
    omega
  rw [if_neg (by simpa using this), Int.natAbs_natCast, Nat.log2_two_pow]
theorem i_shl (k : Nat) : (1 : Int) * 2 ^ ((k : Int)).toNat = ((2 ^ k : Nat) : Int) := by
  rw [Int.toNat_natCast, Int.one_mul]
  exact (Int.natCast_pow 2 k).symm
theorem i_shr (a k : Nat) : (a : Int) / 2 ^ ((k : Int)).toNat = ((a / 2 ^ k : Nat) : Int) := by
  rw [Int.toNat_natCast]
  have : (2 : Int) ^ k = ((2 ^ k : Nat) : Int) := (Int.natCast_pow 2 k).symm
  rw [this]
  exact (Int.natCast_ediv a (2 ^ k)).symm
end Gx

set_option Elab.async false
set_option linter.all false
set_option maxRecDepth 100000
namespace Gx
open PySem

/-! ### min over things that lie in the heap: the comparison may lean on what stays -/
section
variable {prog : Program} {w : World} {A : Around} {it bst : Addr} {foot wrt : List Addr} {num : Nat} {Pr : Nat → Value → Prop} {Sta : Nat → Heap → Prop}
/-- a comparison that holds wherever the heap is good -/
def CmpAt (prog : Program) (w : World) (A : Around) (Pr : Nat → Value → Prop) (bt : Nat → Nat → Bool) (Good : Heap → Prop) : Prop :=
  ∀ (i j : Nat) (x y : Value) (s : Shared) (Q : Value → Shared → Prop) (E : Value → Shared → Prop), Good s.heap → Pr i x → Pr j y → Q (.bool (bt i j)) s → wpAny (model prog w) A (richCompare .Lt x y) Q E s
def Stays (wrt : List Addr) (bst : Addr) (Good : Heap → Prop) : Prop := ∀ h h' : Heap, Good h → (∀ b o, b ∉ wrt → b ≠ bst → h.get? b = some o → h'.get? b = some o) → Good h'
theorem nm_loop : (toString "min" ++ toString ".loop" : String) = "min.loop" := by decide
theorem min_rest (W : Walks prog w A.in1 it foot wrt num Pr Sta) {bt : Nat → Nat → Bool} {Good : Heap → Prop} (cmp : CmpAt prog w A.in1 Pr bt Good) (stay : Stays wrt bst Good) (nf : bst ∉ foot) {Res : Result → Shared → Prop} :
    ∀ (todo j : Nat) (s : Shared) (best : Value) (ep : Nat), num - (j + 1) = todo → j + 1 ≤ num → Sta (j + 1) s.heap → Good s.heap → Pr (argBest bt j) best →
      s.heap.get? bst = some { cls := .type "list", dict := none, data := .seq #[best, best] ep, slots := #[] } →
      (∀ x h' tk, Pr (argBest bt (num - 1)) x → (∀ b o, b ∉ wrt → b ≠ bst → s.heap.get? b = some o → h'.get? b = some o) → Res (.ok (.ret x)) { s with heap := h', toks := tk }) →
      codeAny (model prog w) A (.builtin "min.loop" ⟨[.ref it, .none, .ref bst], []⟩) Res s := by
  have nw : bst ∉ wrt := fun z => nf (W.sub _ z)
  intro todo
  induction todo with
  | zero =>
    intro j s best ep e1 e2 st gd pb hb fin
    have last : j + 1 = num := by omega
    refine codeAny_builtin F.entry_min_loop ?_
    rw [Around.under_plainId F.plain_min_loop _]
    show wpAny _ A.in1 (seqItems? (.ref bst) >>= _) _ _ s
    refine wpAny_bind (wpAny_seqItems hb rfl ?_)
    show wpAny _ A.in1 (tryCatch (pyNext (.ref it)) _ >>= _) _ _ s
    refine wpAny_bind (wpAny_tryCatch (W.done s _ _ (last ▸ st) fun h1 tk1 kp => ?_))
    have hb1 := kp bst _ nw hb
    show wpAny _ A.in1 (updateSeq bst (fun _ => #[]) >>= _) _ _ _
    refine wpAny_bind (wpAny_updateSeq hb1 rfl (wpAny_bind (wpAny_letGo (wpAny_pure ?_))))
    exact fin best _ tk1 (by rw [← last]; exact pb) fun b o n1 n2 q => (Heap.get?_update_other _ _ (Ne.symm n2)).trans (kp b o n1 q)
  | succ todo ih =>
    intro j s best ep e1 e2 st gd pb hb fin
    have more : j + 1 < num := by omega
    refine codeAny_builtin F.entry_min_loop ?_
    rw [Around.under_plainId F.plain_min_loop _]
    show wpAny _ A.in1 (seqItems? (.ref bst) >>= _) _ _ s
    refine wpAny_bind (wpAny_seqItems hb rfl ?_)
    show wpAny _ A.in1 (tryCatch (pyNext (.ref it)) _ >>= _) _ _ s
    refine wpAny_bind (wpAny_tryCatch (W.item (j + 1) s _ _ more st fun x h1 tk1 px st1 kp => ?_))
    have hb1 := kp bst _ nw hb
    have gd1 : Good h1 := stay _ _ gd fun b o n1 _ q => kp b o n1 q
    show wpAny _ A.in1 (tryCatch (holding [x, x] (richCompare .Lt x best >>= _)) _ >>= _) _ _ _
    refine wpAny_bind (wpAny_tryCatch (wpAny_holding (wpAny_bind (cmp (j + 1) (argBest bt j) x best _ _ _ gd1 px pb ?_))))
    refine wpAny_bind (wpAny_holding (wpAny_truthy_bool (wpAny_bind (wpAny_letGo (wpAny_pure ?_)))))
    cases c : bt (j + 1) (argBest bt j) with
    | true =>
      simp only [if_true]
      refine wpAny_bind (wpAny_updateSeq hb1 rfl (wpAny_bind (wpAny_letGo ?_)))
      rw [nm_loop]
      have kp2 : ∀ b o, b ≠ bst → h1.get? b = some o → (h1.update bst (Obj.mapSeq fun _ => #[x, x])).get? b = some o := fun b o n2 q => (Heap.get?_update_other _ _ (Ne.symm n2)).trans q
      refine wpAny_pure ⟨plainId_quiet F.plain_min_loop _, ih (j + 1) _ x _ (by omega) more (W.frame _ _ _ st1 fun b bf o q => kp2 b o (fun z => nf (by rw [← z]; exact bf)) q) (stay _ _ gd1 fun b o _ n2 q => kp2 b o n2 q)
        (by simp only [argBest, c, if_true]; exact px) (Heap.get?_update_self _ hb1 rfl) fun y h2 tk2 py kp3 => fin y h2 tk2 py fun b o n1 n2 q => kp3 b o n1 n2 (kp2 b o n2 (kp b o n1 q))⟩
    | false =>
      simp only [Bool.false_eq_true, if_false]
      refine wpAny_bind (wpAny_letGo ?_)
      rw [nm_loop]
      exact wpAny_pure ⟨plainId_quiet F.plain_min_loop _, ih (j + 1) _ best ep (by omega) more st1 gd1 (by simp only [argBest, c, Bool.false_eq_true, if_false]; exact pb) hb1 fun y h2 tk2 py kp3 => fin y h2 tk2 py fun b o n1 n2 q => kp3 b o n1 n2 (kp b o n1 q)⟩
theorem min_all (W : Walks prog w A.in1 it foot wrt num Pr Sta) {bt : Nat → Nat → Bool} {Good : Heap → Prop} (cmp : CmpAt prog w A.in1 Pr bt Good) (stay : Stays wrt bst Good) (nf : bst ∉ foot) (n0 : 0 < num) {Res : Result → Shared → Prop} {s : Shared} {ep : Nat} (st : Sta 0 s.heap) (gd : Good s.heap)
    (hb : s.heap.get? bst = some { cls := .type "list", dict := none, data := .seq #[] ep, slots := #[] })
    (fin : ∀ x h' tk, Pr (argBest bt (num - 1)) x → (∀ b o, b ∉ wrt → b ≠ bst → s.heap.get? b = some o → h'.get? b = some o) → Res (.ok (.ret x)) { s with heap := h', toks := tk }) :
    codeAny (model prog w) A (.builtin "min.loop" ⟨[.ref it, .none, .ref bst], []⟩) Res s := by
  have nw : bst ∉ wrt := fun z => nf (W.sub _ z)
  refine codeAny_builtin F.entry_min_loop ?_
  rw [Around.under_plainId F.plain_min_loop _]
  show wpAny _ A.in1 (seqItems? (.ref bst) >>= _) _ _ s
  refine wpAny_bind (wpAny_seqItems hb rfl ?_)
  show wpAny _ A.in1 (tryCatch (pyNext (.ref it)) _ >>= _) _ _ s
  refine wpAny_bind (wpAny_tryCatch (W.item 0 s _ _ n0 st fun x h1 tk1 px st1 kp => ?_))
  have hb1 := kp bst _ nw hb
  have gd1 : Good h1 := stay _ _ gd fun b o n1 _ q => kp b o n1 q
  have kp2 : ∀ b o, b ≠ bst → h1.get? b = some o → (h1.update bst (Obj.mapSeq fun _ => #[x, x])).get? b = some o := fun b o n2 q => (Heap.get?_update_other _ _ (Ne.symm n2)).trans q
  show wpAny _ A.in1 (updateSeq bst (fun _ => #[x, x]) >>= _) _ _ _
  refine wpAny_bind (wpAny_updateSeq hb1 rfl ?_)
  rw [nm_loop]
  exact wpAny_pure ⟨plainId_quiet F.plain_min_loop _, min_rest W cmp stay nf _ 0 _ x _ rfl n0 (W.frame _ _ _ st1 fun b bf o q => kp2 b o (fun z => nf (by rw [← z]; exact bf)) q) (stay _ _ gd1 fun b o _ n2 q => kp2 b o n2 q) px (Heap.get?_update_self _ hb1 rfl)
    fun y h2 tk2 py kp3 => fin y h2 tk2 py fun b o n1 n2 q => kp3 b o n1 n2 (kp2 b o n2 (kp b o n1 q))⟩
end
/-- min of a list in the heap whose items lie in the heap -/
theorem min_of {prog : Program} {w : World} {A : Around} {E : Value → Shared → Prop} {s : Shared} {l : Addr} {items : Array Value} {bt : Nat → Nat → Bool} {Good : Heap → Prop} {Q : Value → Shared → Prop} (hh : A.handled = none) (hl : s.heap.IsList l items) (n0 : 0 < items.size)
    (cmp : CmpAt prog w A.in1 (fun i v => items[i]? = some v) bt Good) (gd : ∀ h : Heap, (∀ b o, b < s.heap.objs.size → s.heap.get? b = some o → h.get? b = some o) → Good h)
    (fin : ∀ x h' tk, items[argBest bt (items.size - 1)]? = some x → (∀ b o, s.heap.get? b = some o → h'.get? b = some o) → Q x { s with heap := h', toks := tk }) :
    wpAny (model prog w) A (call (.builtin "min") [.ref l]) Q E s := by
  have hlt : l < s.heap.objs.size := by obtain ⟨_, q, _⟩ := hl; exact Heap.lt_size q
  refine call_function_tree F.kind_min F.plain_min F.entry_min (F.args_min1 _) ?_
  show wpAny _ A.in1 (Builtin.Builtins.bindParams "min" ["key", "default"] 0 ⟨[], []⟩ >>= _) _ _ s
  refine wpAny_bind (wpAny_of_eq (show Builtin.Builtins.bindParams "min" ["key", "default"] 0 ⟨[], []⟩ = pure [none, none] from rfl) ?_)
  refine wpAny_bind (wpAny_pure (wpAny_bind (wpAny_pyIter_list hl ?_)))
  refine wpAny_bind (wpAny_newObj_type ?_)
  rw [nm_loop]
  have sz : ∀ o : Obj, (s.heap.push o).objs.size = s.heap.objs.size + 1 := fun o => Heap.size_push ..
  have keep2 : ∀ (o1 o2 : Obj) b o, s.heap.get? b = some o → ((s.heap.push o1).push o2).get? b = some o := fun o1 o2 b o q => Heap.get?_push_of_some _ (Heap.get?_push_of_some _ q)
  refine wpAny_pure ⟨plainId_quiet F.plain_min_loop _, min_all (Good := fun h => ∀ b o, b < s.heap.objs.size → s.heap.get? b = some o → h.get? b = some o)
    (Walks.list (A := A.in1) hh s.heap.objs.size l (Nat.ne_of_lt hlt) items) (fun i j x y s' Q' E' g => cmp i j x y s' Q' E' (gd _ g)) (fun h h' g kp b o lt q => kp b o ?_ ?_ (g b o lt q)) ?_ n0 ?_ (fun b o _ q => keep2 _ _ b o q) (Heap.get?_push_size _ rfl) fun x h' tk px kp => ?_⟩
  · intro z
    rw [List.mem_singleton.mp z] at lt
    exact Nat.lt_irrefl _ lt
  · intro z
    rw [z, sz] at lt
    exact absurd lt (Nat.not_lt.mpr (Nat.le_succ _))
  · intro z
    rw [sz] at z
    rcases List.mem_cons.mp z with z | z
    · exact absurd z (Nat.succ_ne_self _)
    · rw [← List.mem_singleton.mp z] at hlt
      exact absurd hlt (Nat.not_lt.mpr (Nat.le_succ _))
  · exact ⟨⟨_, Heap.get?_push_of_some _ (Heap.get?_push_size _ rfl), rfl, rfl⟩, (hl.push _).push _⟩
  · refine fin x h' tk px fun b o q => kp b o ?_ ?_ (keep2 _ _ b o q)
    · intro z
      have := Heap.lt_size q
      rw [List.mem_singleton.mp z] at this
      exact Nat.lt_irrefl _ this
    · intro z
      have := Heap.lt_size q
      rw [z, sz] at this
      exact absurd this (Nat.not_lt.mpr (Nat.le_succ _))

/-! ### a < b of lists of ints -/
def ltI : List Int → List Int → Bool
  | _, [] => false
  | [], _ :: _ => true
  | x :: xs, y :: ys => if x = y then ltI xs ys else decide (x < y)
open PySem.SeqAt PySem.MeetsSeq PySem.MeetsSeq2 PySem.MeetsSeq3
open PySem.AutoSeq1 (wpAny_loadPart')
theorem lt_rest {l b : Addr} {xs ys : Array Value} {n1 n2 : Nat} {d1 d2 : Option Addr} {t1 t2 : Array (Option Value)} (us ws : Nat → Int) (hx : ∀ i (h : i < xs.size), ∃ t, xs[i] = .int (us i) t) (hy : ∀ i (h : i < ys.size), ∃ t, ys[i] = .int (ws i) t) :
    ∀ (k i : Nat), xs.size - i = k → i ≤ xs.size → i ≤ ys.size → Meets (Builtin.«list.__eq__.loop» ⟨[.ref l, .ref b, rawInt i, rawInt 0], []⟩)
      (fun A R s => s.heap.get? l = some { cls := .type "list", dict := d1, data := .seq xs n1, slots := t1 } ∧ s.heap.get? b = some { cls := .type "list", dict := d2, data := .seq ys n2, slots := t2 } ∧
        R (.ok (.ret (.bool (ltI ((List.range' i (xs.size - i)).map us) ((List.range' i (ys.size - i)).map ws))))) s) := by
  intro k
  induction k with
  | zero =>
    intro i e h1 h2 prog w A R s h
    obtain ⟨hp, g, d, tk, os⟩ := s
    obtain ⟨ha, hb, h⟩ := h
    have e0 : xs.size - i = 0 := e
    wp_walk using wpAny_loadPart' ha, wpAny_loadPart' hb
    have i1 : xs[((i : Nat) : Int).toNat]? = none := by simp; omega
    rw [i1]
    wp_walk using wpAny_loadPart' ha, wpAny_loadPart' hb
    show R (.ok (.ret (.bool (decide (xs.size < ys.size))))) _
    rw [e0] at h
    by_cases c : xs.size < ys.size
    · obtain ⟨m, em⟩ : ∃ m, ys.size - i = m + 1 := ⟨ys.size - i - 1, by omega⟩
      rw [em] at h
      rw [decide_eq_true c]
      exact h
    · have em : ys.size - i = 0 := by omega
      rw [em] at h
      rw [decide_eq_false c]
      exact h
  | succ k ih =>
    intro i e h1 h2 prog w A R s h
    obtain ⟨hp, g, d, tk, os⟩ := s
    obtain ⟨ha, hb, h⟩ := h
    have l1 : i < xs.size := by omega
    have ex : xs.size - i = (xs.size - (i + 1)) + 1 := by omega
    rw [ex] at h
    by_cases c : i < ys.size
    · have ey : ys.size - i = (ys.size - (i + 1)) + 1 := by omega
      rw [ey, List.range'_succ, List.range'_succ, List.map_cons, List.map_cons] at h
      obtain ⟨t, etx⟩ := hx i l1
      obtain ⟨u, ety⟩ := hy i c
      wp_walk using wpAny_loadPart' ha, wpAny_loadPart' hb
      have i1 : xs[((i : Nat) : Int).toNat]? = some (.int (us i) t) := by simp [l1, etx]
      have i2 : ys[((i : Nat) : Int).toNat]? = some (.int (ws i) u) := by simp [c, ety]
      have hc : ((i : Int) + 1) = ((i + 1 : Nat) : Int) := by push_cast; rfl
      rw [i1, i2]
      refine wpAny_bind (SeqAt.EqAt.int_int (us i) t (ws i) u prog w _ _ ?_)
      have h : R (.ok (.ret (.bool (if us i = ws i then ltI ((List.range' (i + 1) (xs.size - (i + 1))).map us) ((List.range' (i + 1) (ys.size - (i + 1))).map ws) else decide (us i < ws i))))) ⟨hp, g, d, tk, os⟩ := h
      by_cases q : us i = ws i
      · rw [if_pos q] at h
        have qb : (us i == ws i) = true := by simp [q]
        rw [qb]
        wp_walk
        rw [hc]
        exact ⟨plainId_quiet plain_eq_loop _, codeAny_builtin entry_eq_loop (by
          rw [Around.under_plainId plain_eq_loop _]
          exact ih (i + 1) (by omega) (by omega) (by omega) prog w A R _ ⟨ha, hb, h⟩)⟩
      · rw [if_neg q] at h
        have qb : (us i == ws i) = false := by simp [q]
        rw [qb]
        have lt : ∀ (E : Value → Shared → Prop) (Q : Value → Shared → Prop), Q (.bool (decide (us i < ws i))) ⟨hp, g, d, tk, os⟩ → wpAny (model prog w) A.in1 (richCompare .Lt (.int (us i) t) (.int (ws i) u)) Q E ⟨hp, g, d, tk, os⟩ := fun E Q hq =>
          richCompare_gives (op := .Lt) (typeIs_int _ _ t) (typeIs_int _ _ u) F.slot_int_lt F.entry_int_lt (F.args_int_lt_2 _ _) (gives_int_lt _ _ t u) (fun x => nomatch x) hq
        wp_walk using wpAny_loadPart' ha, wpAny_loadPart' hb
        rw [i1, i2]
        wp_walk using lt
        exact h
    · have ey : ys.size - i = 0 := by omega
      rw [ey] at h
      wp_walk using wpAny_loadPart' ha, wpAny_loadPart' hb
      have i2 : ys[((i : Nat) : Int).toNat]? = none := by simp; omega
      have i1 : xs[((i : Nat) : Int).toNat]? = some xs[i] := by simp [l1]
      rw [i1, i2]
      wp_walk using wpAny_loadPart' ha, wpAny_loadPart' hb
      show R (.ok (.ret (.bool (decide (xs.size < ys.size))))) _
      rw [decide_eq_false (by omega)]
      exact h
theorem lt_lists {l b : Addr} {xs ys : Array Value} {n1 n2 : Nat} {d1 d2 : Option Addr} {t1 t2 : Array (Option Value)} (us ws : Nat → Int) (hx : ∀ i (h : i < xs.size), ∃ t, xs[i] = .int (us i) t) (hy : ∀ i (h : i < ys.size), ∃ t, ys[i] = .int (ws i) t) :
    Meets (Builtin.«list.__lt__» ⟨[.ref l, .ref b], []⟩)
      (fun A R s => s.heap.get? l = some { cls := .type "list", dict := d1, data := .seq xs n1, slots := t1 } ∧ s.heap.get? b = some { cls := .type "list", dict := d2, data := .seq ys n2, slots := t2 } ∧
        R (.ok (.ret (.bool (ltI ((List.range xs.size).map us) ((List.range ys.size).map ws))))) s) := by
  intro prog w A R s h
  obtain ⟨hp, g, d, tk, os⟩ := s
  obtain ⟨ha, hb, h⟩ := h
  have f3 := AutoSeq1.sub_list_list
  wp_walk using wpAny_loadPart' ha, wpAny_loadPart' hb
  exact ⟨plainId_quiet plain_eq_loop _, codeAny_builtin entry_eq_loop (by
    rw [Around.under_plainId plain_eq_loop _]
    exact lt_rest us ws hx hy _ 0 rfl (Nat.zero_le _) (Nat.zero_le _) prog w A R _ ⟨ha, hb, by simpa [List.range_eq_range'] using h⟩)⟩
end Gx

set_option Elab.async false
set_option linter.all false
set_option maxRecDepth 100000
namespace Gx
open PySem L2 Gm Sa79

/-! ### numbers as values; contracts by a name -/
abbrev vN (l : List Nat) : List V := l.map fun (n : Nat) => V.int (n : Int)
theorem vN_len (l : List Nat) : (vN l).length = l.length := List.length_map _
theorem vN_at {l : List Nat} {i : Nat} (h : i < l.length) : (vN l)[i]? = some (.int (l.getD i 0 : Nat)) := by
  rw [List.getElem?_map, List.getElem?_eq_getElem h, List.getD_eq_getElem?_getD, List.getElem?_eq_getElem h]
  rfl
theorem vN_atI {l : List Nat} {i : Nat} (h : i < l.length) : atI (vN l) ((i : Nat) : Int) = some (.int (l.getD i 0 : Nat)) := atI_nat (vN_at h)
theorem vN_app (l k : List Nat) : vN (l ++ k) = vN l ++ vN k := List.map_append
structure Has (P : Program) (w : World) (K : PySem.W.Frag) (mg : Str → Option Value) (base : Heap) (x : Str) (k : Nat) (ps : List Str) (sp : Sp) : Prop where
  ex : ∃ f fd, FnOk P w K mg base CX0 k f fd ps sp ∧ Binds K fd ps [] ∧ PySem.W.keepIn K (.ref f) = true ∧ mg x = some (.ref f)
theorem pc {X : Cx} {x : Str} {k j : Nat} {ps : List Str} {sp : Sp} {p pos : Pos} {e : Expr} {es : List Expr} {t : TA} (F : Has X.prog X.w X.K X.mg X.base x k ps sp) (hr : Room j X.A) (ha : PA X (e :: es) t) (hj : k ≤ j := by decide) (hg : Gl X x := by rfl)
    (hdb : (x == ("__debug__" : Str)) = false := by decide) (he : starEach (e :: es) X.env = (false, eval e X.env) :: starEach es X.env := by rfl) (hpl : (backTo pos (starEach es X.env)).any (·.1) = false := by rfl) :
    PE X (.Call (.Name x p) (e :: es) [] pos) (tCall sp [] E0 t) := by
  obtain ⟨f, fd, F, b, kp, m⟩ := F.ex
  exact pe_call F (hr.mono hj) hg m kp b .nil pass0 ha hdb he hpl
/-- a new list, all else as it was -/
def New (H : Hp) (Q : VK) (xs : List V) : Prop := ∀ r H', H r = none → Same H H' → H' r = some (.lst xs) → Q (.ref r) H'
theorem same_new {H : Hp} {p : Addr} (h : H p = none) (o : HO) : Same H (upd H p o) := fun b u q => by rw [upd_ne (ne_of_none q h)]; exact q
/-- all but one address as it was -/
theorem same_upd {H0 H : Hp} {p : Addr} (h : H0 p = none) (s : Same H0 H) (o : HO) : Same H0 (upd H p o) := fun b u q => by rw [upd_ne (ne_of_none q h)]; exact s b u q
theorem New.mono {H H' : Hp} {Q : VK} {xs : List V} (n : New H Q xs) (s : Same H H') : New H' Q xs := fun r H2 h1 h2 h3 => n r H2 (s.free h1) (s.trans h2) h3
theorem small {n : Nat} (h : n ≤ 1000) : n ≤ sizeLine := Nat.le_of_lt (small1000 h)

/-! ### i.bit_length() -/
theorem mt_bitlen {X : Cx} : MtR X "int.bit_length" (fun x xs H Q => ∃ i, x = .int i ∧ xs = [] ∧ Q (.int ((Builtin.Int.intBits i : Nat) : Int)) H) := by
  intro pins s σ H x xs v us Q I rx rs h
  obtain ⟨i, rfl, rfl, h⟩ := h
  obtain ⟨t, rfl⟩ := rx
  cases rs
  exact call_gives F.slot_int_bit_length (typeIs_int _ _ _) F.entry_int_bit_length (F.args_int_bit_length_1 _) (AutoIntG2.int_bit_length_int_0 i t) ⟨.int _, H, I.tok _, ⟨_, rfl⟩, h⟩

/-! ### the head over a specification: one list of ints in, one list of ints out -/
open PySem.W PySem.Calls PyProof.Rows in
theorem ints_in {P : Params} {h : Heap} : ∀ (ns : List Int) (vs : List Value), WellAll P h vs (ns.map WData.int) → IntsAre vs ns
  | [], vs, q => by cases q; exact .nil
  | n :: ns, vs, q => by
    cases q with
    | cons a b =>
      cases a
      exact .cons _ _ (ints_in ns _ b)
open PySem.W in
theorem reads_out {R : WRecords} {cl : Str → Option Addr} {h : Heap} : ∀ {out : List Int} {its : List Value}, Vals (out.map V.int) its → ReadsAllW R cl h its (out.map WData.int) []
  | [], _, .nil => .nil
  | n :: ns, _, .cons r t => by
    obtain ⟨k, rfl⟩ := r
    exact ReadsAllW.cons (as := []) (bs := []) (.int n k) (reads_out t)
theorem spec_call {P : Program} {w : World} {K : PySem.W.Frag} {mg mb : Str → Option Value} {k : Nat} {fa a : Addr} {fd : FuncData} {x : Str} {sp : Sp} {s₁ : Shared} {vs : List Value} {ns out : List Int}
    (KX : K.In s₁.heap) (hns : s₁.heap.Ns mainGlobals mg) (hb : s₁.heap.Ns builtinsNs mb) (hbb : ∀ x : Str, x ≠ "__name__" → mb x = bootBuiltins x) (hlim : s₁.heap.NoLimit) (hg : s₁.gens = #[])
    (ha : s₁.heap.get? a = some { cls := .type "list", data := .seq vs.toArray }) (hi : PyProof.Rows.IntsAre vs ns) (hl : ns.length ≤ sizeLine) (hr : Room k PySem.callerA)
    (F : ∀ base : Heap, K.In base → base.Ns mainGlobals mg → FnOk P w K mg base CX0 k fa fd [x] sp) (hbind : ∀ (s : Shared) (u : Value), BindsTo s fd ⟨[u], []⟩ [(x, u)])
    (hsp : ∀ H : Hp, SqL K H a (ns.map V.int) → sp [.ref a] H (fun v H' => ∃ r, v = .ref r ∧ H' r = some (.lst (out.map V.int))) fun _ _ _ => False) :
    codeAny (model P w) PySem.callerA (.call (.ref fa) ⟨[.ref a], []⟩) (fun r s' => (∃ u n its, r = .ok (.ret (.ref u)) ∧ Vals (out.map V.int) its ∧ s'.heap.get? u = some { cls := .type "list", data := .seq its.toArray n }) ∧ PySem.OldK s₁.heap s'.heap ∧ s'.os = s₁.os ∧ PyProof.Rows.AllBare s'.gens) s₁ := by
  have rv := vals_ints hi
  have lenV := hi.length
  have core : ∀ H : Hp, Only H → SqL K H a (ns.map V.int) → HOk P w H s₁.heap → (∀ b, H b ≠ none → b = a) → (H a ≠ none → K.lookup a = none) →
      codeAny (model P w) PySem.callerA (.call (.ref fa) ⟨[.ref a], []⟩) (fun r s' => (∃ u n its, r = .ok (.ret (.ref u)) ∧ Vals (out.map V.int) its ∧ s'.heap.get? u = some { cls := .type "list", data := .seq its.toArray n }) ∧ PySem.OldK s₁.heap s'.heap ∧ s'.os = s₁.os ∧ PyProof.Rows.AllBare s'.gens) s₁ := by
    intro H hO hS hok hA hK
    have base_of : ∀ {b : Addr} {o : Obj}, s₁.heap.get? b = some o → H b = none → (hidT s₁.heap H).get? b = some o := fun e n => hidT_get e n
    have noA : ∀ {b : Addr} {o : Obj} {es : Array DictEntry} {ep : Nat}, s₁.heap.get? b = some o → o.data = .dict es ep → H b = none := fun {b o es ep} e d => by
      cases q : H b with
      | none => rfl
      | some u =>
        have e' : b = a := hA b (by rw [q]; simp)
        subst e'
        rw [ha] at e; cases e
        have d' : Data.seq vs.toArray _ = Data.dict es ep := d
        cases d'
    have nsK : ∀ {b : Addr} {m : Str → Option Value}, s₁.heap.Ns b m → (hidT s₁.heap H).Ns b m := fun {b m} ⟨o, es, ep, e, d, r⟩ => ⟨o, es, ep, base_of e (noA e d), d, r⟩
    have hKb : K.In (hidT s₁.heap H) := fun b o e => base_of (KX b o e) (by
      cases q : H b with
      | none => rfl
      | some u =>
        have e' : b = a := hA b (by rw [q]; simp)
        subst e'
        rw [hK (by rw [q]; simp)] at e; cases e)
    have hM : Mod K mg (hidT s₁.heap H) := ⟨hKb, nsK hns, ⟨mb, nsK hb, hbb⟩, let ⟨mc, h1, h2⟩ := hlim; ⟨mc, nsK h1, h2⟩⟩
    have e0 : Env0 P w K mg (hidT s₁.heap H) PySem.callerA [] s₁ H := ⟨rfl, hM, fun b o e => of_hidT e, Nat.le_of_eq (hidT_size _ _), trivial, fun b hb => absurd (show b ∈ ([] : List Addr) from hb) (by simp), hok, .of_eq hg⟩
    refine codeAny_mono ((F _ hKb (nsK hns)).run PySem.callerA [] s₁ H ⟨[.ref a], []⟩ [.ref a] [.ref a] _ _ hr e0 (hbind s₁ (.ref a)) (.cons rfl .nil) (hsp H hS)) fun r s' h => ?_
    cases r with
    | error e => exact False.elim h
    | ok fl =>
      cases fl with
      | next => exact False.elim h
      | brk => exact False.elim h
      | cont => exact False.elim h
      | ret u =>
        obtain ⟨v, H', os, bare, un, hok', r', q⟩ := h
        obtain ⟨p, rfl, q'⟩ := q
        obtain rfl : u = Value.ref p := r'
        obtain ⟨_, its, n, rv', hget⟩ := hok' p _ q'
        refine ⟨⟨p, n, its, rfl, rv', hget⟩, PySem.OldK.of_keep fun b o e => ?_, os, bare⟩
        cases q : H b with
        | none => exact un.keep b o e q (by intro z; exact absurd (show b ∈ ([] : List Addr) from z) (by simp)) (by simp)
        | some u =>
          rcases hO b with z | ⟨ob, xs, z⟩
          · rw [q] at z; cases z
          · have z2 := un.frzs b ob _ z
            obtain ⟨e1, _⟩ := hok b _ z
            obtain ⟨e2, _⟩ := hok' b _ z2
            rw [e] at e1; cases e1
            exact e2
  cases hk : K.lookup a with
  | some o =>
    have e := KX a o hk
    rw [ha] at e
    cases e
    refine core (fun _ => none) (fun _ => .inl rfl) (.inr ⟨_, vs.toArray, _, hk, rfl, rfl, rfl, by rw [List.size_toArray, lenV]; exact hl, by simpa using rv⟩) (fun b u z => by have z' : (none : Option HO) = some u := z; cases z') (fun b z => absurd rfl z) fun z => absurd rfl z
  | none =>
    refine core (fun b => if b = a then some (.frz { cls := .type "list", data := .seq vs.toArray } (.lst (ns.map V.int))) else none) (fun b => ?_) (.inl (.inr ⟨{ cls := .type "list", data := .seq vs.toArray }, if_pos rfl⟩)) (fun b u z => ?_) (fun b z => ?_) fun _ => hk
    · by_cases hb : b = a
      · exact .inr ⟨_, _, if_pos hb⟩
      · exact .inl (if_neg hb)
    · by_cases hb : b = a
      · have z' := (if_pos hb).symm.trans z
        cases z'
        subst hb
        exact ⟨ha, by rw [List.length_map]; exact hl, vs, _, rv, ha⟩
      · have z' := (if_neg hb).symm.trans z
        cases z'
    · by_cases hb : b = a
      · exact hb
      · exact absurd (if_neg hb) z
open PySem.W PySem.Calls PyProof.Rows in
/-- the goal behind k_headS, from the promise of the def itself -/
theorem spec_walk {prog : Program} {name : Str} {least most c d' : Nat} {lo hi lo2 hi2 : Int} {asked : List Int → Bool} {f : List Int → List Int} {k : Nat} {q : Program} {loose : List Str} {XP : (Str → Option Value) → Heap → Prop} {YP : World → Heap → Prop} {d : DefRec}
    {K : Params → PySem.W.Frag} {sp : PySem.W.Frag → Sp} {x : Str} {r : OpenSpec} (er : r = OpenSpec.mk prog name [.list least most (.int lo hi)] (.list c d' (.int lo2 hi2)) asked f) (said : r.wellSaid = true) (hn2 : most ≤ sizeLine) (hdf : d.params.defaults = []) (hr : Room k callerA)
    (hY : ∀ (w : World) (h : Heap), YP w h → (K w.params).In h)
    (F : ∀ (w : World) (mg : Str → Option Value) (fa : Addr) (h : Heap), (K w.params).In h → h.Ns mainGlobals mg → mg d.name = some (.ref fa) →
      ∃ fd : FuncData, (∀ (s : Shared) (u : Value), BindsTo s fd ⟨[u], []⟩ [(x, u)]) ∧
        ∀ base : Heap, (K w.params).In base → base.Ns mainGlobals mg → FnOk prog w (K w.params) mg base CX0 k fa fd [x] (sp (K w.params)))
    (hsp : ∀ (w : World) (H : Hp) (a : Addr) (ns : List Int), ns.length ≤ most → (∀ z ∈ ns, lo ≤ z ∧ z ≤ hi) → SqL (K w.params) H a (ns.map V.int) → sp (K w.params) [.ref a] H (fun v H' => ∃ r, v = .ref r ∧ H' r = some (.lst ((f ns).map V.int))) fun _ _ _ => False) :
    WalkOS q loose XP YP r d [] (fun f vs => PySem.call f vs) := by
  subst er
  intro w s₀ s₁ mg mb G Y fa o pm cd doc dV kV ho hd hcd hD hmg hg args vals as hpre hlay hrd hwl hlo
  obtain rfl : dV = .none := Dflts.none hD hdf
  obtain rfl : kV = .none := Dflts.noKw hD
  obtain ⟨⟨ns, u⟩, hin, hask, rfl⟩ := (OpenSpec.pre_iff said args).mp hpre
  cases u
  have hin' := (Codec.and_of (show (Codec.inList least most (Codec.inInt lo hi) ns && true) = true from hin)).1
  have hin2 := Codec.and_of (show (Codec.inLen least most ns && ns.all (Codec.inInt lo hi)) = true from hin')
  have hlen := (Codec.inNat_iff.mp hin2.1).2
  have hall : ∀ z ∈ ns, lo ≤ z ∧ z ≤ hi := fun z hz => Codec.inInt_iff.mp (List.all_eq_true.mp hin2.2 z hz)
  have KX := hY w _ Y
  obtain ⟨fd, hb, hF⟩ := F w mg fa _ KX G.T.g hmg
  have hwl' : WellAll w.params s₁.heap vals [WData.list (ns.map WData.int)] := hwl
  cases hwl' with
  | cons w1 w2 =>
    cases w2
    cases w1 with
    | list hobj hvs =>
      refine enter_call (codeAny_mono (spec_call (out := f ns) KX G.T.g G.T.b G.T.builtins G.T.nolimit hg hobj (ints_in ns _ hvs) (Nat.le_trans hlen hn2) hr hF hb (fun H hS => hsp w H _ ns hlen hall hS)) fun r s' hq => ?_)
      obtain ⟨⟨u, n, its, rfl, rv, hget⟩, h2, h3, h4⟩ := hq
      refine ⟨.inl ⟨.ref u, .list ((f ns).map WData.int), [u], rfl, fun _ => rfl, .list hget rfl rfl (by rw [List.toList_toArray]; exact reads_out rv), (OpenSpec.post_iff said hin _ _).mpr rfl, fun h => absurd h Bool.false_ne_true⟩, h2, h3, h4⟩
end Gx

set_option Elab.async false
set_option linter.all false
set_option maxRecDepth 100000
namespace Gx
open PySem L2 Gm Sa79

/-! ### min of a list of lists of numbers -/
theorem ltI_nat : ∀ a b : List Nat, ltI (a.map fun (n : Nat) => (n : Int)) (b.map fun (n : Nat) => (n : Int)) = true ↔ Lt a b
  | [], [] => by unfold ltI Lt; simp
  | [], _ :: _ => by
    show ltI [] (_ :: _) = true ↔ True
    simp [ltI]
  | _ :: _, [] => by
    show ltI (_ :: _) [] = true ↔ False
    simp [ltI]
  | x :: xs, y :: ys => by
    show (if (x : Int) = (y : Int) then ltI (xs.map fun (n : Nat) => (n : Int)) (ys.map fun (n : Nat) => (n : Int)) else decide ((x : Int) < (y : Int))) = true ↔ x < y ∨ (x = y ∧ Lt xs ys)
    by_cases c : x = y
    · rw [if_pos (by rw [c]), ltI_nat xs ys]
      constructor
      · intro h; exact .inr ⟨c, h⟩
      · rintro (h | h)
        · omega
        · exact h.2
    · rw [if_neg (by omega), decide_eq_true_eq]
      constructor
      · intro h; exact .inl (by omega)
      · rintro (h | h)
        · omega
        · exact absurd h.1 c
def ltN (a b : List Nat) : Bool := ltI (a.map fun (n : Nat) => (n : Int)) (b.map fun (n : Nat) => (n : Int))
theorem ltN_iff {a b : List Nat} : ltN a b = true ↔ Lt a b := ltI_nat a b
theorem best_least (cs : List (List Nat)) : ∀ k, argBest (fun i j => ltN (cs.getD i []) (cs.getD j [])) k ≤ k ∧ ∀ j, j ≤ k → ltN (cs.getD j []) (cs.getD (argBest (fun i j => ltN (cs.getD i []) (cs.getD j [])) k) []) = false
  | 0 => ⟨Nat.le_refl _, fun j hj => by
      have : j = 0 := by omega
      subst this
      show ltN (cs.getD 0 []) (cs.getD 0 []) = false
      cases q : ltN (cs.getD 0 []) (cs.getD 0 []) with
      | false => rfl
      | true => exact absurd (ltN_iff.mp q) Lt.irr⟩
  | k + 1 => by
    obtain ⟨h1, h2⟩ := best_least cs k
    generalize hb : argBest (fun i j => ltN (cs.getD i []) (cs.getD j [])) k = b at h1 h2
    have e : argBest (fun i j => ltN (cs.getD i []) (cs.getD j [])) (k + 1) = if ltN (cs.getD (k + 1) []) (cs.getD b []) then k + 1 else b := by
      show (if ltN (cs.getD (k + 1) []) (cs.getD (argBest (fun i j => ltN (cs.getD i []) (cs.getD j [])) k) []) then k + 1 else argBest (fun i j => ltN (cs.getD i []) (cs.getD j [])) k) = _
      rw [hb]
    rw [e]
    cases c : ltN (cs.getD (k + 1) []) (cs.getD b []) with
    | true =>
      rw [if_pos rfl]
      refine ⟨Nat.le_refl _, fun j hj => ?_⟩
      cases q : ltN (cs.getD j []) (cs.getD (k + 1) []) with
      | false => rfl
      | true =>
        by_cases z : j = k + 1
        · subst z
          exact absurd (ltN_iff.mp q) Lt.irr
        · have := (ltN_iff.mp q).trans (ltN_iff.mp c)
          have := ltN_iff.mpr this
          rw [h2 j (by omega)] at this
          cases this
    | false =>
      rw [if_neg (by simp)]
      refine ⟨by omega, fun j hj => ?_⟩
      by_cases z : j = k + 1
      · subst z; exact c
      · exact h2 j (by omega)
/-- the lists at rs hold the numbers cs -/
abbrev Rows (H : Hp) (rs : List Addr) (cs : List (List Nat)) : Prop := Paired (fun r c => H r = some (.lst (vN c))) rs cs
theorem Rows.len {H : Hp} {rs : List Addr} {cs : List (List Nat)} (h : Rows H rs cs) : rs.length = cs.length := Paired.length h
theorem Rows.at : ∀ {H : Hp} {rs : List Addr} {cs : List (List Nat)} {i : Nat}, Rows H rs cs → i < cs.length → ∃ r, rs[i]? = some r ∧ H r = some (.lst (vN (cs.getD i [])))
  | _, _, _, _, .nil, h => absurd h (Nat.not_lt_zero _)
  | _, _, _, 0, .cons r t, _ => ⟨_, rfl, r⟩
  | _, _, _, i + 1, .cons r t, h => by
    obtain ⟨r, h1, h2⟩ := Rows.at (i := i) t (by simpa using h)
    exact ⟨r, by simpa using h1, by simpa using h2⟩
theorem Rows.mono {H H' : Hp} (s : Same H H') : ∀ {rs : List Addr} {cs : List (List Nat)}, Rows H rs cs → Rows H' rs cs
  | _, _, .nil => .nil
  | _, _, .cons r t => .cons (s _ _ r) (Rows.mono s t)
theorem Rows.app {H : Hp} : ∀ {rs ts : List Addr} {cs ds : List (List Nat)}, Rows H rs cs → Rows H ts ds → Rows H (rs ++ ts) (cs ++ ds)
  | _, _, _, _, .nil, s => s
  | _, _, _, _, .cons r t, s => .cons r (Rows.app t s)
def rMinL (K : PySem.W.Frag) : List V → Hp → VK → Prop := fun vs H Q => ∃ (a : Addr) (rs : List Addr) (cs : List (List Nat)), vs = [V.ref a] ∧ SqL K H a (rs.map V.ref) ∧ cs ≠ [] ∧ Rows H rs cs ∧
  ∀ r c, c ∈ cs → H r = some (.lst (vN c)) → (∀ d ∈ cs, ¬ Lt d c) → Q (.ref r) H
theorem in1_units (A : Around) : A.in1.units = A.units + 1 := by first | rfl | (simp [Around.in1])
theorem cr_minL {X : Cx} (hc : X.calm = true) (hu : X.A.units + 64 < cLine) : CallR X (.builtin "min") (rMinL X.K) := by
  intro pins s σ H vs us Q I r h
  obtain ⟨a, rs, cs, rfl, hs, hne, hr, q⟩ := h
  obtain ⟨its, rv, hl, _⟩ := I.list hs
  rw [Vals.ref1 r]
  have hlen : its.length = cs.length := by rw [← rv.length, List.length_map, hr.len]
  have n0 : 0 < its.toArray.size := by
    rw [List.size_toArray, hlen]
    exact List.length_pos_iff.mpr hne
  have itAt : ∀ i v, its.toArray[i]? = some v → ∃ r, v = .ref r ∧ i < cs.length ∧ H r = some (.lst (vN (cs.getD i []))) := fun i v e => by
    rw [List.getElem?_toArray] at e
    have hi : i < cs.length := by
      rw [← hlen]
      rcases Nat.lt_or_ge i its.length with z | z
      · exact z
      · rw [List.getElem?_eq_none z] at e; cases e
    obtain ⟨r, h1, h2⟩ := hr.at hi
    obtain ⟨u, h3, h4⟩ := rv.get (i := i) (x := .ref r) (by rw [List.getElem?_map, h1]; rfl)
    rw [e] at h3
    cases h3
    exact ⟨r, h4, hi, h2⟩
  refine min_of (bt := fun i j => ltN (cs.getD i []) (cs.getD j [])) (Good := fun h => ∀ b o, b < s.heap.objs.size → s.heap.get? b = some o → h.get? b = some o) (I.ok.hd hc) hl.isList n0 ?_ (fun h g => g) fun x h' tk hx hk => ?_
  · intro i j x y s' Q' E' g hx hy hq
    obtain ⟨r1, rfl, i1, e1⟩ := itAt i x hx
    obtain ⟨r2, rfl, i2, e2⟩ := itAt j y hy
    obtain ⟨_, xs, n1, v1, o1⟩ := I.hok r1 _ e1
    obtain ⟨_, ys, n2, v2, o2⟩ := I.hok r2 _ e2
    have o1 := g _ _ (Heap.lt_size o1) o1
    have o2 := g _ _ (Heap.lt_size o2) o2
    have side : ∀ {c : List Nat} {zs : List Value}, Vals (vN c) zs → ∀ i (h : i < zs.toArray.size), ∃ t, zs.toArray[i] = .int ((c.getD i 0 : Nat) : Int) t := fun {c zs} v i h => by
      have hz : zs.length = c.length := by rw [← v.length, vN_len]
      rw [List.size_toArray] at h
      obtain ⟨u, h3, t, h4⟩ := v.get (i := i) (x := .int (c.getD i 0 : Nat)) (vN_at (by omega))
      rw [List.getElem?_eq_getElem h] at h3
      cases h3
      exact ⟨t, by simpa using h4⟩
    have as_map : ∀ {c : List Nat} {zs : List Value}, Vals (vN c) zs → (List.range zs.toArray.size).map (fun i => ((c.getD i 0 : Nat) : Int)) = c.map fun (n : Nat) => (n : Int) := fun {c zs} v => by
      have hz : zs.length = c.length := by rw [← v.length, vN_len]
      refine List.ext_getElem (by simp [hz]) fun i h1 h2 => ?_
      simp at h2
      simp [h2]
    refine richCompare_meets_room (op := .Lt) ⟨_, o1, rfl⟩ ⟨_, o2, rfl⟩ PySem.F.slot_list_lt PySem.F.entry_list_lt (PySem.F.args_list_lt_2 _ _) (lt_lists (n1 := n1) (n2 := n2) (d1 := none) (d2 := none) (t1 := #[]) (t2 := #[]) (fun k => (((cs.getD i []).getD k 0 : Nat) : Int)) (fun k => (((cs.getD j []).getD k 0 : Nat) : Int)) (side v1) (side v2)) ?_ ?_
    · refine ⟨o1, o2, ?_⟩
      rw [as_map v1, as_map v2]
      exact ⟨(fun z => nomatch z), hq⟩
    · rw [in1_units]
      omega
  · obtain ⟨r, rfl, hi, e⟩ := itAt _ x hx
    obtain ⟨b1, b2⟩ := best_least cs (its.toArray.size - 1)
    refine ⟨.ref r, H, I.kept hk, rfl, q r _ ?_ e fun d hd z => ?_⟩
    · rw [List.getD_eq_getElem?_getD, List.getElem?_eq_getElem hi]
      exact List.getElem_mem hi
    · obtain ⟨j, hj, ej⟩ := List.getElem_of_mem hd
      have := b2 j (by rw [List.size_toArray]; omega)
      rw [List.getD_eq_getElem?_getD, List.getElem?_eq_getElem hj] at this
      have z' := ltN_iff.mpr z
      rw [← ej] at z'
      simp only [Option.getD_some] at this
      rw [z'] at this
      cases this
end Gx

set_option Elab.async false
set_option linter.all false
set_option maxRecDepth 100000
namespace Pg
open PySem L2 Gm Gx Sa79
theorem take_succ' {l : List Nat} {i : Nat} (h : i < l.length) : l.take (i + 1) = l.take i ++ [l.getD i 0] := by
  rw [List.take_succ_eq_append_getElem h, List.getD_eq_getElem?_getD, List.getElem?_eq_getElem h]
  rfl
theorem flat_le {α β : Type} {f : α → List β} {k : Nat} : ∀ {l : List α}, (∀ a ∈ l, (f a).length ≤ k) → (l.flatMap f).length ≤ l.length * k
  | [], _ => by simp
  | a :: l, h => by
    have h1 := h a List.mem_cons_self
    have h2 := flat_le (l := l) fun x hx => h x (List.mem_cons_of_mem _ hx)
    rw [List.flatMap_cons, List.length_append, List.length_cons, Nat.succ_mul]
    omega
theorem take_le {l : List Nat} (h : l.length ≤ 32) (i : Nat) : (l.take i).length ≤ 32 := by
  rw [List.length_take]
  omega
theorem flat_snoc {β : Type} {f : Nat → List β} {l : List Nat} {i : Nat} (h : i < l.length) : (l.take (i + 1)).flatMap f = (l.take i).flatMap f ++ f (l.getD i 0) := by
  rw [take_succ' h, List.flatMap_append]
  simp
theorem Rows.upd {H : Hp} {p : Addr} {o : HO} : ∀ {rs : List Addr} {cs : List (List Nat)}, p ∉ rs → Rows H rs cs → Rows (L2.upd H p o) rs cs
  | _, _, _, .nil => .nil
  | r :: rs, _, h, .cons e t => .cons (by rw [upd_ne (fun z => h (by rw [z]; exact List.mem_cons_self))]; exact e) (Rows.upd (fun z => h (List.mem_cons_of_mem _ z)) t)
theorem line_ok {n : Nat} (h : n ≤ 100000) : n < sizeLine := by
  rw [sizeLine_eq]
  omega
/-- what the two loops keep -/
structure Kept (H0 H' : Hp) (cl : Addr) (cs : List (List Nat)) : Prop where
  same : Same H0 H'
  ex : ∃ rs : List Addr, H' cl = some (.lst (rs.map V.ref)) ∧ (∀ x ∈ rs, H0 x = none) ∧ cl ∉ rs ∧ Rows H' rs cs
theorem Kept.step {H0 H1 H2 : Hp} {cl : Addr} {cs : List (List Nat)} (k : Kept H0 H1 cl cs) (s : Same H1 H2) : Kept H0 H2 cl cs := by
  obtain ⟨s0, rs, h1, h2, h3, h4⟩ := k
  exact ⟨s0.trans s, rs, s _ _ h1, h2, h3, h4.mono s⟩
theorem Kept.push {H0 H1 : Hp} {cl n : Addr} {cs : List (List Nat)} {c : List Nat} (hcl : H0 cl = none) (k : Kept H0 H1 cl cs) (hn : H1 n = some (.lst (vN c))) (hn0 : H0 n = none) (ne : n ≠ cl) :
    ∃ xs, H1 cl = some (.lst xs) ∧ xs.length = cs.length ∧ Kept H0 (upd H1 cl (.lst (xs ++ [.ref n]))) cl (cs ++ [c]) := by
  obtain ⟨s0, rs, h1, h2, h3, h4⟩ := k
  refine ⟨_, h1, by rw [List.length_map, h4.len], same_upd hcl s0 _, rs ++ [n], by rw [upd_same, List.map_append]; rfl, fun x hx => ?_, fun z => ?_, ?_⟩
  · rcases List.mem_append.mp hx with z | z
    · exact h2 x z
    · rw [List.mem_singleton.mp z]; exact hn0
  · rcases List.mem_append.mp z with z | z
    · exact h3 z
    · exact ne (List.mem_singleton.mp z).symm
  · exact Rows.app (Rows.upd h3 h4) (.cons (by rw [upd_ne ne]; exact hn) .nil)
theorem rows_get {H : Hp} {rs : List Addr} {cs : List (List Nat)} {i : Nat} {x : V} (h : Rows H rs cs) (hx : (rs.map V.ref)[i]? = some x) : i < cs.length ∧ ∃ r, x = .ref r ∧ rs[i]? = some r ∧ H r = some (.lst (vN (cs.getD i []))) := by
  have hi : i < cs.length := by
    rw [← h.len]
    rcases Nat.lt_or_ge i rs.length with z | z
    · exact z
    · rw [List.getElem?_eq_none (by rw [List.length_map]; exact z)] at hx
      cases hx
  obtain ⟨r, h1, h2⟩ := h.at hi
  rw [List.getElem?_map, h1] at hx
  exact ⟨hi, r, (Option.some.inj hx).symm, h1, h2⟩
theorem takeL {α : Type} {l : List (List α)} {i : Nat} (h : i < l.length) : l.take (i + 1) = l.take i ++ [l.getD i []] := by
  rw [List.take_succ_eq_append_getElem h, List.getD_eq_getElem?_getD, List.getElem?_eq_getElem h]
  rfl
def rLen (K : PySem.W.Frag) : List V → Hp → VK → Prop := fun xs H Q => ∃ p ys, xs = [V.ref p] ∧ (SqL K H p ys ∨ SqT K H p ys) ∧ Q (V.int ys.length) H
theorem call_lenK {X : Cx} {K : PySem.W.Frag} (h : X.K = K) : CallR X (.builtin "len") (rLen K) := by
  subst h
  exact call_len_seq
end Pg

set_option Elab.async false
set_option linter.all false
set_option maxRecDepth 100000
namespace Gx
open PySem L2 Gm Sa79
/-! ### x in a tuple of data at any depth -/
def rInD (K : PySem.W.Frag) : R2 := fun x y H Q => ∃ d ds, Dp K H x d ∧ Dp K H y (.tuple ds) ∧ SeqAt.shaped d = true ∧ SeqAt.shaped (.tuple ds) = true ∧ Q (.bl (ds.any fun e => PyData.eqv e d)) H
theorem op_inD {X : Cx} (hu : X.A.units + 65 < cLine) : OpR X (compareOp .In) (rInD X.K) := by
  intro pins s σ H x y v u Q I rx ry h
  obtain ⟨d, ds, hd, he, sd, se, q⟩ := h
  obtain ⟨as, r1⟩ := Dp.reads I d x v hd rx
  obtain ⟨bs, r2⟩ := Dp.reads I (.tuple ds) y u he ry
  exact SeqAt.in_tuple_reads r2 r1 (SeqAt.canLay_of_shaped se) (SeqAt.canLay_of_shaped sd) (PyProof.Rows.room_in_shaped sd hu) ⟨.bl _, H, I, rfl, q⟩
theorem room65 {k : Nat} {A : Around} (r : Room k A) : A.units + 65 < cLine := by have := r.un; omega
/-- a tuple of numbers that is read stays -/
theorem same_tup {K : PySem.W.Frag} {H H' : Hp} {a : Addr} {xs : List V} (e : Same H H') (h : SqT K H a xs) : SqT K H' a xs := by
  rcases h with (h | ⟨o, h⟩) | h
  · exact .inl (.inl (e _ _ h))
  · exact .inl (.inr ⟨o, e _ _ h⟩)
  · exact .inr h
inductive Tups (K : PySem.W.Frag) (H : Hp) : List Addr → List (List Nat) → Prop
  | nil : Tups K H [] []
  | cons {t : Addr} {ns : List Nat} {ts : List Addr} {nss : List (List Nat)} : SqT K H t (vN ns) → Tups K H ts nss → Tups K H (t :: ts) (ns :: nss)
/-- a tuple of tuples of numbers -/
def TupsAt (K : PySem.W.Frag) (H : Hp) (a : Addr) (nss : List (List Nat)) : Prop := ∃ ts : List Addr, SqT K H a (ts.map V.ref) ∧ Tups K H ts nss
theorem TupsAt.mono {K : PySem.W.Frag} {H H' : Hp} {a : Addr} {nss : List (List Nat)} (h : TupsAt K H a nss) (e : Same H H') : TupsAt K H' a nss := by
  obtain ⟨ts, h1, h2⟩ := h
  refine ⟨ts, same_tup e h1, ?_⟩
  clear h1
  induction h2 with
  | nil => exact .nil
  | cons h _ ih => exact .cons (same_tup e h) ih
def dInts (ns : List Nat) : List PyData := ns.map fun (n : Nat) => PyData.int (n : Int)
theorem dp_tint {K : PySem.W.Frag} {H : Hp} : ∀ l : List Nat, DpAll K H (vN l) (dInts l)
  | [] => .nil
  | n :: l => .cons (.int _) (dp_tint l)
theorem dp_tups {K : PySem.W.Frag} {H : Hp} {a : Addr} {nss : List (List Nat)} (h : TupsAt K H a nss) : Dp K H (.ref a) (.tuple (nss.map fun ns => .tuple (dInts ns))) := by
  obtain ⟨ts, h1, h2⟩ := h
  refine .tup h1 ?_
  clear h1
  induction h2 with
  | nil => exact .nil
  | cons h _ ih => exact .cons (.tup h (dp_tint _)) ih
theorem lay_tint : ∀ l : List Nat, PyData.canLayAll0 (dInts l) = true
  | [] => rfl
  | n :: l => by simpa [dInts, PyData.canLay0, PyData.canLayAll0] using lay_tint l
theorem dep_tint : ∀ l : List Nat, PyData.depthAll (dInts l) ≤ 1
  | [] => by simp [dInts, PyData.depthAll]
  | n :: l => by
    have := dep_tint l
    simp only [dInts] at this
    simp [dInts, PyData.depthAll, PyData.depth]
    omega
theorem shaped_tint (l : List Nat) : SeqAt.shaped (.tuple (dInts l)) = true := by
  unfold SeqAt.shaped
  simp only [Bool.and_eq_true, decide_eq_true_eq]
  refine ⟨by simpa [PyData.canLay0] using lay_tint l, ?_⟩
  have := dep_tint l
  simp only [PyData.depth]
  omega
theorem shaped_tups (l : List (List Nat)) : SeqAt.shaped (.tuple (l.map fun ns => .tuple (dInts ns))) = true := by
  unfold SeqAt.shaped
  simp only [Bool.and_eq_true, decide_eq_true_eq]
  constructor
  · have : PyData.canLayAll0 (l.map fun ns => PyData.tuple (dInts ns)) = true := by
      induction l with
      | nil => rfl
      | cons a l ih => simpa [PyData.canLay0, PyData.canLayAll0, lay_tint a] using ih
    simpa [PyData.canLay0] using this
  · have : PyData.depthAll (l.map fun ns => PyData.tuple (dInts ns)) ≤ 2 := by
      induction l with
      | nil => simp [PyData.depthAll]
      | cons a l ih =>
        have := dep_tint a
        simp [PyData.depthAll, PyData.depth]
        omega
    simp only [PyData.depth]
    omega
/-- a constant of the module that is a tuple of numbers -/
def TupC (K : PySem.W.Frag) (mg : Str → Option Value) (x : Str) (ns : List Nat) : Prop := ∃ t : Addr, mg x = some (.ref t) ∧ ∀ H : Hp, SqT K H t (vN ns)
theorem tupC_of {K : PySem.W.Frag} {mg : Str → Option Value} {x : Str} {ns : List Nat} {t : Addr} {o : Obj} {its : Array Value} {n : Nat} (m : mg x = some (.ref t)) (l : K.lookup t = some o) (hc : o.cls = .type "tuple") (hd : o.data = .seq its n) (hz : its.size ≤ 100) (r : Vals (vN ns) its.toList) : TupC K mg x ns :=
  ⟨t, m, fun H => .inr ⟨o, its, n, l, hc, hd, Nat.le_trans hz (small (by decide)), r⟩⟩
theorem vals_nil : Vals (vN []) [] := .nil
theorem vals_cons {n : Nat} {ns : List Nat} {k : Tok} {us : List Value} (h : Vals (vN ns) us) : Vals (vN (n :: ns)) (.int (n : Int) k :: us) := .cons ⟨_, rfl⟩ h
end Gx

set_option Elab.async false
set_option linter.all false
set_option maxRecDepth 100000
namespace Pg
open PySem L2 Gm Gx Sa79
def top (i : Nat) : Stmt := PySem.Challenge.pw_plaingraphs_s08_pf_steps.main.body.getD i (.Pass ⟨0, 0, 0, 0⟩)
section
variable {P : Program} {w : World} {K : PySem.W.Frag} {mg : Str → Option Value} {base : Heap} {f : Addr} {fd : FuncData}

/-! ### has_point -/
abbrev sHasPoint : Stmt := top 3
def spHasPoint : Sp := fun vs H Q _ => ∃ a b : Nat, vs = [.int (a : Int), .int (b : Int)] ∧ Q (.bl (a.testBit b)) H
theorem scHasPoint : FnScope ["mask", "u"] ["mask", "u"] (defScope sHasPoint) := ⟨rfl, rfl, rfl, by decide +kernel, rfl, by decide +kernel, by decide +kernel⟩
theorem bit_is (a b : Nat) : decide (V.int (Builtin.bitAnd ((a : Int) / 2 ^ ((b : Int)).toNat) 1) = V.int 1) = a.testBit b := by
  (try dsimp only); rw [i_shr, show (1 : Int) = ((1 : Nat) : Int) from rfl, i_and, Nat.and_one_is_mod, Nat.testBit_eq_decide_div_mod_eq]
  refine decide_eq_decide.mpr ⟨fun e => ?_, fun e => ?_⟩
  · have := V.int.inj e
    omega
  · rw [e]
theorem ok_has_point (F : Fun K "has_point" "has_point" sHasPoint f fd) : FnOk P w K mg base CX0 1 f fd ["mask", "u"] spHasPoint := by
  refine F.ok scHasPoint (fun vs H Q E h => ?_) (fun cdv A outer s H vs Q E hr h => ?_)
  · obtain ⟨a, b, rfl, _⟩ := h
    rfl
  obtain ⟨a, b, rfl, q⟩ := h
  refine ⟨_, pss_one (ps_ret (pe_cmpR op_eq (pe_op op_and (pe_op op_shr (pv 0) (pv 1)) pe_int) pe_int (nomark _))), ?_⟩
  refine ⟨_, rfl, _, rfl, _, _, rfl, rfl, Int.natCast_nonneg _, _, _, rfl, rfl, rfl, ?_⟩
  rw [bit_is]
  exact q

/-! ### all_points -/
abbrev sAllPoints : Stmt := top 4
def spAllPoints (K : PySem.W.Frag) : Sp := fun vs H Q _ => ∃ (p : Addr) (g : List Nat), vs = [.ref p] ∧ SqL K H p (vN g) ∧ g.length ≤ 32 ∧ Q (.int ((2 ^ g.length - 1 : Nat) : Int)) H
theorem scAllPoints : FnScope ["g"] ["g"] (defScope sAllPoints) := ⟨rfl, rfl, rfl, by decide +kernel, rfl, by decide +kernel, by decide +kernel⟩
theorem pow_less (n : Nat) : ((2 ^ n : Nat) : Int) - 1 = ((2 ^ n - 1 : Nat) : Int) := by
  have := Nat.two_pow_pos n
  omega
theorem ok_all_points (ml : mg "len" = none) (F : Fun K "all_points" "all_points" sAllPoints f fd) : FnOk P w K mg base CX0 1 f fd ["g"] (spAllPoints K) := by
  refine F.ok scAllPoints (fun vs H Q E h => ?_) (fun cdv A outer s H vs Q E hr h => ?_)
  · obtain ⟨p, g, rfl, _⟩ := h
    rfl
  obtain ⟨p, g, rfl, hS, h32, q⟩ := h
  refine ⟨_, pss_one (ps_ret (pe_op op_sub (pe_op op_shl pe_int (pe_callB call_len_seq rfl ml PySem.boot_len (pa_cons (pv 0) pa_nil))) pe_int)), ?_⟩
  refine ⟨_, rfl, p, _, rfl, .inl hS, _, _, rfl, rfl, ⟨Int.natCast_nonneg _, ?_, by decide⟩, _, _, rfl, rfl, ?_⟩
  · rw [vN_len]; omega
  · (try dsimp only); rw [vN_len, i_shl, pow_less]
    exact q

/-! ### without -/
abbrev sWithout : Stmt := top 5
def spWithout : Sp := fun vs H Q _ => ∃ a b : Nat, vs = [.int (a : Int), .int (b : Int)] ∧ Q (.int ((wo a b : Nat) : Int)) H
theorem scWithout : FnScope ["mask", "taken"] ["mask", "taken"] (defScope sWithout) := ⟨rfl, rfl, rfl, by decide +kernel, rfl, by decide +kernel, by decide +kernel⟩
theorem ok_without (F : Fun K "without" "without" sWithout f fd) : FnOk P w K mg base CX0 1 f fd ["mask", "taken"] spWithout := by
  refine F.ok scWithout (fun vs H Q E h => ?_) (fun cdv A outer s H vs Q E hr h => ?_)
  · obtain ⟨a, b, rfl, _⟩ := h
    rfl
  obtain ⟨a, b, rfl, q⟩ := h
  refine ⟨_, pss_one (ps_ret (pe_op op_and (pv 0) (pe_un un_inv (pv 1)))), ?_⟩
  refine ⟨_, rfl, _, rfl, _, rfl, _, _, rfl, rfl, ?_⟩
  (try dsimp only); rw [i_without]
  exact q

/-! ### least_point -/
abbrev sLeastPoint : Stmt := top 6
def spLeastPoint : Sp := fun vs H Q _ => ∃ a : Nat, vs = [.int (a : Int)] ∧ a < 2 ^ 32 ∧ a ≠ 0 ∧ Q (.int ((lp a : Nat) : Int)) H
theorem scLeastPoint : FnScope ["mask"] ["mask"] (defScope sLeastPoint) := ⟨rfl, rfl, rfl, by decide +kernel, rfl, by decide +kernel, by decide +kernel⟩
theorem ok_least_point (F : Fun K "least_point" "least_point" sLeastPoint f fd) : FnOk P w K mg base CX0 1 f fd ["mask"] spLeastPoint := by
  refine F.ok scLeastPoint (fun vs H Q E h => ?_) (fun cdv A outer s H vs Q E hr h => ?_)
  · obtain ⟨a, rfl, _⟩ := h
    rfl
  obtain ⟨a, rfl, h32, h0, q⟩ := h
  refine ⟨_, pss_one (ps_ret (pe_op op_sub (pe_bm0 PySem.F.plainAttrs_int PySem.F.slot_int_bit_length PySem.F.type_int_bit_length mt_bitlen (pe_op op_and (pv 0) (pe_un un_neg (pv 0)))) pe_int)), ?_⟩
  refine ⟨_, rfl, _, rfl, _, rfl, _, _, rfl, rfl, rfl, _, rfl, rfl, _, _, rfl, rfl, ?_⟩
  (try dsimp only); rw [i_low h32 h0, i_bits]
  have e : ((lp a + 1 : Nat) : Int) - 1 = ((lp a : Nat) : Int) := by omega
  try dsimp only
  rw [e]
  exact q

/-! ### points_of -/
abbrev sPointsOf : Stmt := top 7
def spPointsOf : Sp := fun vs H Q _ => ∃ a : Nat, vs = [.int (a : Int)] ∧ a < 2 ^ 32 ∧ New H Q (vN (ofMask a))
theorem scPointsOf : FnScope ["mask", "points", "left", "u"] ["mask"] (defScope sPointsOf) := ⟨rfl, rfl, rfl, by decide +kernel, rfl, by decide +kernel, by decide +kernel⟩
theorem ok_points_of (hL : Has P w K mg base "least_point" 1 ["mask"] spLeastPoint) (hW : Has P w K mg base "without" 1 ["mask", "taken"] spWithout) (F : Fun K "points_of" "points_of" sPointsOf f fd) : FnOk P w K mg base CX0 2 f fd ["mask"] spPointsOf := by
  refine F.ok scPointsOf (fun vs H Q E h => ?_) (fun cdv A outer s H vs Q E hr h => ?_)
  · obtain ⟨a, rfl, _⟩ := h
    rfl
  obtain ⟨a, rfl, h32, q⟩ := h
  have nd := scPointsOf.nd
  refine ⟨_, pss_cons (ps_set (i := 1) nd rfl (Or.inl rfl) (pe_lst pa_nil)) (pss_cons (ps_set (i := 2) nd rfl (Or.inl rfl) (pv 0)) (pss_cons
    (ps_while PassesOwn.never (pt_cmpR op_ne (pv 2) pe_int (nomark _)) (pss_cons (ps_set (i := 3) nd rfl (Or.inl rfl) (pc hL hr (pa_cons (pv 2) pa_nil)))
      (pss_cons (ps_expr (pe_bm PySem.F.plainAttrs_list PySem.F.slot_list_append PySem.F.type_list_append mt_append (pv 1) (pa_cons (pv 3) pa_nil)))
      (pss_one (ps_set (i := 2) nd rfl (Or.inl rfl) (pc hW hr (pa_cons (pv 2) (pa_cons (pe_op op_shl pe_int (pv 3)) pa_nil))))))))
    (pss_one (ps_ret (pv 1))))), ?_⟩
  refine ⟨(by show 0 ≤ sizeLine; decide), fun l hl => ?_⟩
  refine ⟨_, rfl, ?_⟩
  -- the while
  refine ⟨fun m σ H' => ∃ (left : Nat) (d : List Nat) (x : Option V), m = left ∧ σ = [some (.int (a : Int)), some (.ref l), some (.int (left : Int)), x] ∧ Same H H' ∧ H' l = some (.lst (vN d)) ∧ d ++ ofMask left = ofMask a ∧ left < 2 ^ 32,
    ⟨a, a, [], none, rfl, rfl, same_new hl _, upd_same, rfl, h32⟩, ?_⟩
  rintro m σ H' ⟨left, d, x, rfl, rfl, hs, hd, e, lt⟩
  refine ⟨_, rfl, rfl, _, rfl, ?_⟩
  refine ite2 (fun c => ?_) (fun c => ?_)
  · have c0 : m ≠ 0 := by
      rintro rfl
      simp at c
    refine ⟨_, fun _ _ z => z, ?_⟩
    refine ⟨_, rfl, m, rfl, lt, c0, ?_⟩
    have dl : d.length < 1000 := by
      have := of_length a
      rw [← e, List.length_append] at this
      omega
    refine ⟨_, rfl, .inl ⟨rfl, _, SqL.of hd⟩, _, rfl, l, _, _, rfl, rfl, hd, ?_, ?_⟩
    · rw [vN_len]; exact small1000 (by omega)
    refine ⟨_, rfl, _, rfl, _, _, rfl, rfl, ⟨Int.natCast_nonneg _, ?_, by decide⟩, m, 2 ^ lp m, ?_, ?_⟩
    · have := lp_lt lt c0
      omega
    · (try dsimp only); rw [i_shl]; rfl
    · refine ⟨_, wo_lp_lt lt c0, wo m (2 ^ lp m), d ++ [lp m], _, rfl, rfl, same_upd hl hs _, ?_, ?_, wo_lt lt⟩
      · rw [upd_same, vN_app]
        rfl
      · rw [List.append_assoc, List.singleton_append, ← of_cons lt c0, e]
  · have c0 : m = 0 := by
      by_cases z : m = 0
      · exact z
      · exfalso
        refine c ?_
        simp
        omega
    subst c0
    refine ⟨_, rfl, ?_⟩
    rw [of_zero, List.append_nil] at e
    rw [e] at hd
    exact q l _ hl hs hd
end
end Pg

set_option Elab.async false
set_option linter.all false
set_option maxRecDepth 100000
namespace Pg
open PySem L2 Gm Gx Sa79
section
variable {P : Program} {w : World} {K : PySem.W.Frag} {mg : Str → Option Value} {base : Heap} {f : Addr} {fd : FuncData}
theorem vN_get {l : List Nat} {i : Nat} {x : V} (h : (vN l)[i]? = some x) : i < l.length ∧ x = .int ((l.getD i 0 : Nat) : Int) := by
  rcases Nat.lt_or_ge i l.length with z | z
  · rw [vN_at z] at h
    exact ⟨z, (Option.some.inj h).symm⟩
  · rw [List.getElem?_eq_none (by rw [vN_len]; exact z)] at h
    cases h
theorem of_ix {m i n : Nat} (hm : m < 2 ^ n) (h : i < (ofMask m).length) : (ofMask m).getD i 0 < n ∧ m.testBit ((ofMask m).getD i 0) = true := by
  have := (mem_of.mp (getD_mem' h)).2
  exact ⟨tb_ltn hm this, this⟩
theorem shl_eq (u : Nat) : (1 : Int) * 2 ^ ((u : Int)).toNat = ((2 ^ u : Nat) : Int) := i_shl u
theorem ne_nat (a b : Nat) : (!decide (V.int (a : Int) = V.int (b : Int))) = !decide (a = b) := by
  congr 1
  refine decide_eq_decide.mpr ⟨fun e => ?_, fun e => by rw [e]⟩
  have := V.int.inj e
  omega
theorem eq_nat (a b : Nat) : decide (V.int (a : Int) = V.int (b : Int)) = decide (a = b) := by
  refine decide_eq_decide.mpr ⟨fun e => ?_, fun e => by rw [e]⟩
  have := V.int.inj e
  omega
theorem ne_natE {x y : V} {a b : Nat} (hx : x = .int (a : Int)) (hy : y = .int (b : Int)) : (!decide (x = y)) = !decide (a = b) := by
  subst hx hy
  exact ne_nat a b
theorem eq_natE {x y : V} {a b : Nat} (hx : x = .int (a : Int)) (hy : y = .int (b : Int)) : decide (x = y) = decide (a = b) := by
  subst hx hy
  exact eq_nat a b
theorem iteE {b : Bool} {p q : Prop} (c : Bool) (e : b = c) (h1 : c = true → p) (h2 : ¬ c = true → q) : if b = true then p else q := by
  subst e
  cases b with
  | true => exact h1 rfl
  | false => exact h2 (by simp)
theorem v_shl (k : Nat) : V.int (1 * 2 ^ ((k : Int)).toNat) = V.int ((2 ^ k : Nat) : Int) := by rw [i_shl]
theorem v_and (a b : Nat) : V.int (Builtin.bitAnd (a : Int) (b : Int)) = V.int ((a &&& b : Nat) : Int) := by rw [i_and]
theorem v_or (a b : Nat) : V.int (Builtin.bitOr (a : Int) (b : Int)) = V.int ((a ||| b : Nat) : Int) := by rw [i_or]
theorem v_shr (a k : Nat) : V.int ((a : Int) / 2 ^ ((k : Int)).toNat) = V.int ((a / 2 ^ k : Nat) : Int) := by rw [i_shr]
abbrev GL (K : PySem.W.Frag) (H : Hp) (p : Addr) (g : List Nat) : Prop := SqL K H p (vN g)

/-! ### lists told empty -/
theorem dp_ints {H : Hp} : ∀ l : List Nat, DpAll K H (vN l) (l.map fun (n : Nat) => PyData.int (n : Int))
  | [] => .nil
  | n :: l => .cons (.int _) (dp_ints l)
theorem shaped_ints (l : List Nat) : SeqAt.shaped (.list (l.map fun (n : Nat) => PyData.int (n : Int))) = true := by
  unfold SeqAt.shaped
  simp only [Bool.and_eq_true, decide_eq_true_eq]
  constructor
  · induction l with
    | nil => rfl
    | cons a l ih => simpa [PyData.canLay0, PyData.canLayAll0] using ih
  · have : ∀ l : List Nat, PyData.depthAll (l.map fun (n : Nat) => PyData.int (n : Int)) ≤ 1 := by
      intro l
      induction l with
      | nil => simp [PyData.depthAll]
      | cons a l ih => simp [PyData.depthAll, PyData.depth]; omega
    have h := this l
    simp only [PyData.depth]
    omega
theorem eqv_nil (l : List Nat) : PyData.eqv (.list (l.map fun (n : Nat) => PyData.int (n : Int))) (.list []) = l.isEmpty := by
  cases l <;> rfl
end
end Pg

set_option Elab.async false
set_option linter.all false
set_option maxRecDepth 100000
namespace Pg
open PySem L2 Gm Gx Sa79
section
variable {P : Program} {w : World} {K : PySem.W.Frag} {mg : Str → Option Value} {base : Heap} {f : Addr} {fd : FuncData}

/-! ### joined_pairs -/
abbrev sJp : Stmt := top 19
def spJp (K : PySem.W.Frag) : Sp := fun vs H Q _ => ∃ (p : Addr) (g : List Nat) (a b c d : Nat), vs = [.ref p, .int (a : Int), .int (b : Int), .int (c : Int), .int (d : Int)] ∧ GL K H p g ∧ a < g.length ∧ c < g.length ∧ Q (.int (((joined g a b).toNat + (joined g c d).toNat : Nat) : Int)) H
theorem scJp : FnScope ["g", "a", "b", "c", "d"] ["g", "a", "b", "c", "d"] (defScope sJp) := ⟨rfl, rfl, rfl, by decide +kernel, rfl, by decide +kernel, by decide +kernel⟩
theorem bit_int (a b : Nat) : Builtin.bitAnd ((a : Int) / 2 ^ ((b : Int)).toNat) 1 = (((a.testBit b).toNat : Nat) : Int) := by
  rw [i_shr, show (1 : Int) = ((1 : Nat) : Int) from rfl, i_and, Nat.and_one_is_mod, Nat.testBit_eq_decide_div_mod_eq]
  rcases Nat.mod_two_eq_zero_or_one (a / 2 ^ b) with e | e <;> rw [e] <;> rfl
theorem ok_jp (F : Fun K "joined_pairs" "joined_pairs" sJp f fd) : FnOk P w K mg base CX0 1 f fd ["g", "a", "b", "c", "d"] (spJp K) := by
  refine F.ok scJp (fun vs H Q E h => ?_) (fun cdv A outer s H vs Q E hr h => ?_)
  · obtain ⟨p, g, a, b, c, d, rfl, _⟩ := h
    rfl
  obtain ⟨p, g, a, b, c, d, rfl, hS, ha, hc, q⟩ := h
  refine ⟨_, pss_one (ps_ret (pe_op op_add (pe_op op_and (pe_op op_shr (pe_ix ix_list (pv 0) (pv 1) (fun _ _ => rfl)) (pv 2)) pe_int) (pe_op op_and (pe_op op_shr (pe_ix ix_list (pv 0) (pv 3) (fun _ _ => rfl)) (pv 4)) pe_int))), ?_⟩
  refine ⟨_, rfl, _, rfl, p, _, _, _, rfl, rfl, hS, vN_atI ha, _, rfl, _, _, rfl, rfl, Int.natCast_nonneg _, _, _, rfl, rfl, ?_⟩
  refine ⟨_, rfl, _, rfl, p, _, _, _, rfl, rfl, hS, vN_atI hc, _, rfl, _, _, rfl, rfl, Int.natCast_nonneg _, _, _, rfl, rfl, _, _, rfl, rfl, ?_⟩
  (try dsimp only); rw [bit_int, bit_int]
  exact q

/-! ### kind_of_four -/
abbrev sKind : Stmt := top 18
def spKind (K : PySem.W.Frag) : Sp := fun vs H Q _ => ∃ (p : Addr) (g : List Nat) (a b c d : Nat), vs = [.ref p, .int (a : Int), .int (b : Int), .int (c : Int), .int (d : Int)] ∧ GL K H p g ∧ a < g.length ∧ b < g.length ∧ c < g.length ∧
  ∀ t H', H t = none → Same H H' → H' t = some (.tup (vN (kindOf g a b c d))) → Q (.ref t) H'
theorem scKind : FnScope ["g", "a", "b", "c", "d"] ["g", "a", "b", "c", "d"] (defScope sKind) := ⟨rfl, rfl, rfl, by decide +kernel, rfl, by decide +kernel, by decide +kernel⟩
theorem ints_nat : ∀ {l : List Int} {k : List Nat}, l.Perm (k.map fun (n : Nat) => (n : Int)) → ∃ m : List Nat, l = m.map fun (n : Nat) => (n : Int) := fun {l k} p => by
  refine ⟨l.map Int.toNat, ?_⟩
  rw [List.map_map]
  conv => lhs; rw [← List.map_id l]
  refine List.map_congr_left fun z hz => ?_
  obtain ⟨n, _, rfl⟩ := List.mem_map.mp (p.mem_iff.mp hz)
  rfl
theorem sort_ints {ns : List Int} {x y z : Nat} (p : ns.Perm [(x : Int), (y : Int), (z : Int)]) (s : ns.Pairwise (· ≤ ·)) : ns.map V.int = vN (srt x y z) := by
  obtain ⟨m, rfl⟩ := ints_nat (k := [x, y, z]) p
  have pm : m.Perm [x, y, z] := by
    have := p.map Int.toNat
    rw [List.map_map, show (Int.toNat ∘ fun (n : Nat) => (n : Int)) = id from rfl, List.map_id] at this
    exact this
  have so : m.Pairwise (· ≤ ·) := by
    rw [List.pairwise_map] at s
    exact s.imp fun h => by omega
  rw [srt_is pm so, List.map_map]
  rfl
theorem ok_kind (hJ : Has P w K mg base "joined_pairs" 1 ["g", "a", "b", "c", "d"] (spJp K)) (ms : mg "sorted" = none) (mt : mg "tuple" = none) (F : Fun K "kind_of_four" "kind_of_four" sKind f fd) : FnOk P w K mg base CX0 2 f fd ["g", "a", "b", "c", "d"] (spKind K) := by
  refine F.ok scKind (fun vs H Q E h => ?_) (fun cdv A outer s H vs Q E hr h => ?_)
  · obtain ⟨p, g, a, b, c, d, rfl, _⟩ := h
    rfl
  obtain ⟨p, g, a, b, c, d, rfl, hS, ha, hb, hc, q⟩ := h
  refine ⟨_, pss_one (ps_ret (pe_callTy call_tuple_of rfl mt PyProof.Rows.boot_tuple (pa_cons (pe_callB cr_sorted rfl ms PyProof.Rows.boot_sorted (pa_cons (pe_lst
    (pa_cons (pc hJ hr (pa_cons (pv 0) (pa_cons (pv 1) (pa_cons (pv 2) (pa_cons (pv 3) (pa_cons (pv 4) pa_nil))))))
    (pa_cons (pc hJ hr (pa_cons (pv 0) (pa_cons (pv 1) (pa_cons (pv 3) (pa_cons (pv 2) (pa_cons (pv 4) pa_nil))))))
    (pa_cons (pc hJ hr (pa_cons (pv 0) (pa_cons (pv 1) (pa_cons (pv 4) (pa_cons (pv 2) (pa_cons (pv 3) pa_nil)))))) pa_nil)))) pa_nil)) pa_nil))), ?_⟩
  refine ⟨_, rfl, _, rfl, _, rfl, _, rfl, _, rfl, p, g, a, b, c, d, rfl, hS, ha, hc, ?_⟩
  refine ⟨_, rfl, _, rfl, _, rfl, _, rfl, _, rfl, p, g, a, c, b, d, rfl, hS, ha, hb, ?_⟩
  refine ⟨_, rfl, _, rfl, _, rfl, _, rfl, _, rfl, p, g, a, d, b, c, rfl, hS, ha, hb, ?_⟩
  refine ⟨(by show 3 ≤ sizeLine; decide), fun l n => ?_⟩
  have s1 : Same H (upd H l (.lst [.int (((joined g a b).toNat + (joined g c d).toNat : Nat) : Int), .int (((joined g a c).toNat + (joined g b d).toNat : Nat) : Int), .int (((joined g a d).toNat + (joined g b c).toNat : Nat) : Int)])) := same_new n _
  refine ⟨l, [_, _, _], rfl, SqL.of upd_same, by simp, fun ns l2 pm so n2 => ?_⟩
  refine ⟨l2, _, rfl, .inl ⟨SqL.of upd_same, fun t nt => ?_⟩⟩
  rw [sort_ints pm so]
  have s2 := s1.trans (same_new n2 (.lst (vN (srt ((joined g a b).toNat + (joined g c d).toNat) ((joined g a c).toNat + (joined g b d).toNat) ((joined g a d).toNat + (joined g b c).toNat)))))
  rw [sort_ints pm so] at nt
  exact q t _ (s2.free nt) (s2.trans (same_new nt _)) upd_same

/-! ### first_four -/
abbrev sFour : Stmt := top 17
def spFour (K : PySem.W.Frag) : Sp := fun vs H Q _ => ∃ (p kp : Addr) (g : List Nat) (nss : List (List Nat)) (t : List Nat → Bool), vs = [.ref p, .ref kp] ∧ GL K H p g ∧ g.length ≤ 32 ∧ TupsAt K H kp nss ∧
  (∀ a b c d, a < b → b < c → c < d → d < g.length → inKinds nss (kindOf g a b c d) = t [a, b, c, d]) ∧ New H Q (vN (((sets g.length 4).find? t).getD []))
theorem scFour : FnScope ["g", "kinds", "a", "b", "c", "d"] ["g", "kinds"] (defScope sFour) := ⟨rfl, rfl, rfl, by decide +kernel, rfl, by decide +kernel, by decide +kernel⟩
theorem eqv_dints : ∀ (a b : List Nat), PyData.eqv (.tuple (dInts a)) (.tuple (dInts b)) = decide (a = b) := by
  have key : ∀ (a b : List Nat), PyData.eqvAll (dInts a) (dInts b) = decide (a = b) := by
    intro a
    induction a with
    | nil => intro b; cases b <;> rfl
    | cons x a ih =>
      intro b
      cases b with
      | nil => rfl
      | cons y b =>
        have e := ih b
        simp only [dInts] at e
        simp only [dInts, List.map_cons, PyData.eqvAll, PyData.eqv, e]
        rw [Bool.eq_iff_iff]
        simp
        omega
  intro a b
  exact key a b
theorem any_kinds (nss : List (List Nat)) (k : List Nat) : ((nss.map fun ns => PyData.tuple (dInts ns)).any fun e => PyData.eqv e (.tuple (dInts k))) = inKinds nss k := by
  unfold inKinds
  rw [List.any_map]
  congr 1
  funext e
  exact eqv_dints e k
theorem ok_four (hK : Has P w K mg base "kind_of_four" 2 ["g", "a", "b", "c", "d"] (spKind K)) (ml : mg "len" = none) (mr : mg "range" = none) (F : Fun K "first_four" "first_four" sFour f fd) : FnOk P w K mg base CX0 3 f fd ["g", "kinds"] (spFour K) := by
  refine F.ok scFour (fun vs H Q E h => ?_) (fun cdv A outer s H vs Q E hr h => ?_)
  · obtain ⟨p, kp, g, nss, t, rfl, _⟩ := h
    rfl
  obtain ⟨p, kp, g, nss, t, rfl, hS, g32, hN, ht, q⟩ := h
  have nd := scFour.nd
  refine ⟨_, pss_cons
    (ps_for PassesOwn.never rfl (pi_range1 rfl mr (pa_cons (pe_callB call_len_seq rfl ml PySem.boot_len (pa_cons (pv 0) pa_nil)) pa_nil)) (pg_name (i := 2) nd rfl (Or.inl rfl)) (pss_one
      (ps_for PassesOwn.never rfl (pi_range2 rfl mr (pa_cons (pe_op op_add (pv 2) pe_int) (pa_cons (pe_callB call_len_seq rfl ml PySem.boot_len (pa_cons (pv 0) pa_nil)) pa_nil))) (pg_name (i := 3) nd rfl (Or.inl rfl)) (pss_one
        (ps_for PassesOwn.never rfl (pi_range2 rfl mr (pa_cons (pe_op op_add (pv 3) pe_int) (pa_cons (pe_callB call_len_seq rfl ml PySem.boot_len (pa_cons (pv 0) pa_nil)) pa_nil))) (pg_name (i := 4) nd rfl (Or.inl rfl)) (pss_one
          (ps_for PassesOwn.never rfl (pi_range2 rfl mr (pa_cons (pe_op op_add (pv 4) pe_int) (pa_cons (pe_callB call_len_seq rfl ml PySem.boot_len (pa_cons (pv 0) pa_nil)) pa_nil))) (pg_name (i := 5) nd rfl (Or.inl rfl)) (pss_one
            (ps_if (pt_cmpR (op_inD (room65 hr)) (pc hK hr (pa_cons (pv 0) (pa_cons (pv 2) (pa_cons (pv 3) (pa_cons (pv 4) (pa_cons (pv 5) pa_nil)))))) (pv 1) (by with_unfolding_all rfl)) (pss_one (ps_ret (pe_lst (pa_cons (pv 2) (pa_cons (pv 3) (pa_cons (pv 4) (pa_cons (pv 5) pa_nil)))))))  pss_nil)))))))))
    (pss_one (ps_ret (pe_lst pa_nil))), ?_⟩
  refine ⟨_, rfl, p, _, rfl, .inl hS, _, rfl, by rw [vN_len]; omega, by rw [vN_len]; omega, ?_⟩
  rw [vN_len, Int.toNat_natCast]
  refine for_range (lo := 0) (n := g.length) (fun i σ H' => (∃ x y z u, σ = [some (.ref p), some (.ref kp), x, y, z, u]) ∧ Same H H' ∧ ∀ a b c d, a < i → a < b → b < c → c < d → d < g.length → t [a, b, c, d] = false) ?_ ?_ ?_
  · exact ⟨⟨_, _, _, _, rfl⟩, fun _ _ z => z, fun a b c d ha => absurd ha (Nat.not_lt_zero _)⟩
  · rintro a σ H1 ha ⟨⟨x2, x3, x4, x5, rfl⟩, s1, t1⟩
    rw [show (0 : Int) + (a : Nat) = ((a : Nat) : Int) by omega]
    refine ⟨_, rfl, _, _, rfl, rfl, _, rfl, p, _, rfl, .inl (s1.seq hS), _, _, rfl, ⟨by omega, by omega, by rw [vN_len]; omega, by rw [vN_len]; omega⟩, ?_⟩
    rw [vN_len, show (((g.length : Nat) : Int) - ((a : Int) + 1)).toNat = g.length - (a + 1) by omega]
    refine for_range (lo := (a : Int) + 1) (n := g.length - (a + 1)) (fun k σ H' => (∃ y z u, σ = [some (.ref p), some (.ref kp), some (.int (a : Int)), y, z, u]) ∧ Same H H' ∧ ∀ b c d, b < a + 1 + k → a < b → b < c → c < d → d < g.length → t [a, b, c, d] = false) ?_ ?_ ?_
    · exact ⟨⟨_, _, _, rfl⟩, s1, fun b c d hb h1 => by omega⟩
    · rintro k σ H2 hk ⟨⟨y3, y4, y5, rfl⟩, s2, t2⟩
      rw [show (a : Int) + 1 + (k : Nat) = ((a + 1 + k : Nat) : Int) by omega]
      have hb : a + 1 + k < g.length := by omega
      have hab : a < a + 1 + k := by omega
      generalize hbk : a + 1 + k = b at *
      refine ⟨_, rfl, _, _, rfl, rfl, _, rfl, p, _, rfl, .inl (s2.seq hS), _, _, rfl, ⟨by omega, by omega, by rw [vN_len]; omega, by rw [vN_len]; omega⟩, ?_⟩
      rw [vN_len, show (((g.length : Nat) : Int) - ((b : Int) + 1)).toNat = g.length - (b + 1) by omega]
      refine for_range (lo := (b : Int) + 1) (n := g.length - (b + 1)) (fun k σ H' => (∃ z u, σ = [some (.ref p), some (.ref kp), some (.int (a : Int)), some (.int (b : Int)), z, u]) ∧ Same H H' ∧ ∀ c d, c < b + 1 + k → b < c → c < d → d < g.length → t [a, b, c, d] = false) ?_ ?_ ?_
      · exact ⟨⟨_, _, rfl⟩, s2, fun c d hc h1 => by omega⟩
      · rintro k3 σ H3 hk3 ⟨⟨z4, z5, rfl⟩, s3, t3⟩
        rw [show (b : Int) + 1 + (k3 : Nat) = ((b + 1 + k3 : Nat) : Int) by omega]
        have hc : b + 1 + k3 < g.length := by omega
        have hbc : b < b + 1 + k3 := by omega
        generalize hck : b + 1 + k3 = c at *
        refine ⟨_, rfl, _, _, rfl, rfl, _, rfl, p, _, rfl, .inl (s3.seq hS), _, _, rfl, ⟨by omega, by omega, by rw [vN_len]; omega, by rw [vN_len]; omega⟩, ?_⟩
        rw [vN_len, show (((g.length : Nat) : Int) - ((c : Int) + 1)).toNat = g.length - (c + 1) by omega]
        refine for_range (lo := (c : Int) + 1) (n := g.length - (c + 1)) (fun k σ H' => (∃ u, σ = [some (.ref p), some (.ref kp), some (.int (a : Int)), some (.int (b : Int)), some (.int (c : Int)), u]) ∧ Same H H' ∧ ∀ d, d < c + 1 + k → c < d → d < g.length → t [a, b, c, d] = false) ?_ ?_ ?_
        · exact ⟨⟨_, rfl⟩, s3, fun d hd h1 => by omega⟩
        · rintro k4 σ H4 hk4 ⟨⟨u5, rfl⟩, s4, t4⟩
          rw [show (c : Int) + 1 + (k4 : Nat) = ((c + 1 + k4 : Nat) : Int) by omega]
          have hd : c + 1 + k4 < g.length := by omega
          have hcd : c < c + 1 + k4 := by omega
          generalize hdk : c + 1 + k4 = d at *
          have te := ht a b c d hab hbc hcd hd
          refine ⟨_, rfl, _, rfl, _, rfl, _, rfl, _, rfl, p, g, a, b, c, d, rfl, s4.seq hS, ha, hb, hc, fun kt H5 n5 s5 e5 => ?_⟩
          have s05 := s4.trans s5
          refine ⟨_, rfl, .tuple (dInts (kindOf g a b c d)), _, .tup (SqT.of e5) (dp_tint _), dp_tups (hN.mono s05), shaped_tint _, shaped_tups _, _, rfl, ?_⟩
          rw [any_kinds, te]
          refine ite2 (fun e => ?_) (fun e => ?_)
          · refine ⟨_, rfl, _, rfl, _, rfl, _, rfl, (by show 4 ≤ sizeLine; decide), fun l n => ?_⟩
            refine q l _ (s05.free n) (s05.trans (same_new n _)) ?_
            rw [upd_same, first_some hab hbc hcd hd e t1 t2 t3 t4]
            rfl
          · refine ⟨⟨_, rfl⟩, s05, fun d' hd' h1 h2 => ?_⟩
            by_cases z : d' = d
            · subst z
              simpa using e
            · exact t4 d' (by omega) h1 h2
        · rintro σ H4 ⟨⟨u5, rfl⟩, s4, t4⟩
          refine ⟨⟨_, _, rfl⟩, s4, fun c' d' hc' h1 h2 h3 => ?_⟩
          by_cases z : c' = c
          · subst z
            exact t4 d' (by omega) h2 h3
          · exact t3 c' d' (by omega) h1 h2 h3
      · rintro σ H3 ⟨⟨z4, z5, rfl⟩, s3, t3⟩
        refine ⟨⟨_, _, _, rfl⟩, s3, fun b' c' d' hb' h1 h2 h3 h4 => ?_⟩
        by_cases z : b' = b
        · subst z
          exact t3 c' d' (by omega) h2 h3 h4
        · exact t2 b' c' d' (by omega) h1 h2 h3 h4
    · rintro σ H2 ⟨⟨y3, y4, y5, rfl⟩, s2, t2⟩
      refine ⟨⟨_, _, _, _, rfl⟩, s2, fun a' b' c' d' ha' h1 h2 h3 h4 => ?_⟩
      by_cases z : a' = a
      · subst z
        exact t2 b' c' d' (by omega) h1 h2 h3 h4
      · exact t1 a' b' c' d' (by omega) h1 h2 h3 h4
  · rintro σ H1 ⟨⟨x2, x3, x4, x5, rfl⟩, s1, t1⟩
    refine ⟨(by show 0 ≤ sizeLine; decide), fun l n => ?_⟩
    refine q l _ (s1.free n) (s1.trans (same_new n _)) ?_
    rw [upd_same, sets_none fun r hr => ?_]
    · rfl
    · obtain ⟨a, b, c, d, rfl, h1, h2, h3, h4⟩ := mem4.mp hr
      exact t1 a b c d (by omega) h1 h2 h3 h4
end
end Pg

set_option Elab.async false
set_option linter.all false
set_option maxRecDepth 100000
namespace Pg
open PySem L2 Gm Gx Sa79
section
variable {P : Program} {w : World} {K : PySem.W.Frag} {mg : Str → Option Value} {base : Heap} {f : Addr} {fd : FuncData}

/-! ### points_with_none_or_all -/
abbrev sNa : Stmt := top 21
def spNa (K : PySem.W.Frag) : Sp := fun vs H Q _ => ∃ (p : Addr) (g : List Nat) (m : Nat), vs = [.ref p, .int (m : Int)] ∧ GL K H p g ∧ Gr g ∧ m < 2 ^ g.length ∧ New H Q (vN (canStep g m))
theorem scNa : FnScope ["g", "left", "u"] ["g", "left"] (defScope sNa) := ⟨rfl, rfl, rfl, by decide +kernel, rfl, by decide +kernel, by decide +kernel⟩
theorem in_goes {g : G} (hG : Gr g) {m u : Nat} (hl : m < 2 ^ 32) (hv : m.testBit u = true) : inV (.int (Builtin.bitAnd ((g.getD u 0 : Nat) : Int) ((m : Nat) : Int))) [.int 0, .int ((wo m (2 ^ u) : Nat) : Int)] = goes g m u := by
  rw [i_and, Bool.eq_iff_iff, goes_iff hG hl hv]
  generalize g.getD u 0 &&& m = x
  generalize wo m (2 ^ u) = y
  show ((0 == ((x : Nat) : Int)) || ((((y : Nat) : Int) == ((x : Nat) : Int)) || false)) = true ↔ _
  simp only [Bool.or_false, Bool.or_eq_true, beq_iff_eq]
  omega
theorem ok_na (hP : Has P w K mg base "points_of" 2 ["mask"] spPointsOf) (hW : Has P w K mg base "without" 1 ["mask", "taken"] spWithout) (F : Fun K "points_with_none_or_all" "points_with_none_or_all" sNa f fd) : FnOk P w K mg base CX0 3 f fd ["g", "left"] (spNa K) := by
  refine F.ok scNa (fun vs H Q E h => ?_) (fun cdv A outer s H vs Q E hr h => ?_)
  · obtain ⟨p, g, m, rfl, _⟩ := h
    rfl
  obtain ⟨p, g, m, rfl, hS, hG, lt, q⟩ := h
  have nd := scNa.nd
  have l32 := lt32 hG lt
  have g32 := hG.len32
  refine ⟨_, pss_one (ps_ret (pe_lc (own := [("u", 2)]) rfl nd (pi_list (pc hP hr (pa_cons (pv 1) pa_nil))) (blkOk_by (N := ["g", "left", "u"]) (sc := defScope sNa) (by decide +kernel)) (fun s H C cl fp => pg_name (i := 2) nd rfl (Or.inl rfl))
    (fun s H C cl fp => pts_one (pt_cmpR (r := rIn K false) op_in_seq (pe_op op_and (pe_ix (r := rIxL K) ix_list (pv 0) (pv 2) (fun _ _ => rfl)) (pv 1)) (pe_tup (pa_cons pe_int (pa_cons (pc hW hr (pa_cons (pv 1) (pa_cons (pe_op op_shl pe_int (pv 2)) pa_nil))) pa_nil))) (by with_unfolding_all rfl))) (fun s H C cl fp => pv 2))), ?_⟩
  refine ⟨_, rfl, m, rfl, l32, fun r H1 hr0 hs hH => ?_⟩
  refine ⟨r, rfl, ⟨_, SqL.of hH⟩, fun D hD => lc_list (xs := vN (ofMask m)) (fun i H' => Same H1 H' ∧ H' D = some (.lst (vN (((ofMask m).take i).filter (goes g m))))) ?_ ?_ ?_ ?_⟩
  · exact ⟨same_new hD _, upd_same⟩
  · rintro i H' _ ⟨h1, _⟩
    exact SqL.of (h1 _ _ hH)
  · rintro i x H' hx ⟨h1, h2⟩
    obtain ⟨hi, rfl⟩ := vN_get hx
    obtain ⟨un, ub⟩ := of_ix lt hi
    have hlen : (((ofMask m).take i).filter (goes g m)).length ≤ 32 := by
      refine Nat.le_trans (List.length_filter_le _ _) ?_
      rw [List.length_take]
      have := of_length m
      omega
    refine ⟨rfl, _, rfl, _, rfl, p, _, _, _, rfl, rfl, h1.seq (hs.seq hS), vN_atI un, _, rfl, _, _, rfl, rfl, ?_⟩
    refine ⟨_, rfl, _, rfl, _, _, rfl, rfl, ⟨Int.natCast_nonneg _, by omega, by decide⟩, m, 2 ^ (ofMask m).getD i 0, by (try dsimp only); rw [i_shl]; rfl, ?_⟩
    refine ⟨(by show 2 ≤ sizeLine; decide), fun tp nt => ?_⟩
    refine ⟨tp, _, rfl, .inr (SqT.of upd_same), rfl, rfl, _, rfl, ?_⟩
    have nD : D ≠ tp := ne_of_none h2 nt
    refine iteE (goes g m ((ofMask m).getD i 0)) (in_goes hG l32 ub) (fun c => ?_) (fun c => ?_)
    · refine ⟨_, rfl, _, by rw [upd_ne nD]; exact h2, by rw [vN_len]; exact small1000 (by omega), same_upd hD (h1.trans (same_new nt _)) _, ?_⟩
      rw [upd_same, take_succ' hi, List.filter_append, vN_app, List.filter_cons_of_pos (p := goes g m) c]
      rfl
    · refine ⟨h1.trans (same_new nt _), ?_⟩
      rw [upd_ne nD, h2, take_succ' hi, List.filter_append, List.filter_cons_of_neg (p := goes g m) c]
      simp
  · rintro H' ⟨h1, h2⟩
    rw [vN_len, List.take_length] at h2
    exact q D H' (hs.free hD) (hs.trans h1) h2

/-! ### going_steps -/
abbrev sSteps : Stmt := top 20
def Stepped (g o : List Nat) : Prop := (stepsFrom g (g.length + 1) (points g) = some o ∧ o.length = g.length) ∨ (stepsFrom g (g.length + 1) (points g) = none ∧ o.length < g.length)
def spSteps (K : PySem.W.Frag) : Sp := fun vs H Q _ => ∃ (p : Addr) (g : List Nat), vs = [.ref p] ∧ GL K H p g ∧ Gr g ∧ ∀ o, Stepped g o → o.length ≤ 32 → New H Q (vN o)
theorem scSteps : FnScope ["g", "steps", "left", "going", "u"] ["g"] (defScope sSteps) := ⟨rfl, rfl, rfl, by decide +kernel, rfl, by decide +kernel, by decide +kernel⟩
theorem ok_steps (hA : Has P w K mg base "all_points" 1 ["g"] (spAllPoints K)) (hC : Has P w K mg base "points_with_none_or_all" 3 ["g", "left"] (spNa K)) (hW : Has P w K mg base "without" 1 ["mask", "taken"] spWithout) {t : Tok} (mj : mg "WAS_JOINED_TO_ALL" = some (.int 128 t)) (F : Fun K "going_steps" "going_steps" sSteps f fd) :
    FnOk P w K mg base CX0 4 f fd ["g"] (spSteps K) := by
  refine F.ok scSteps (fun vs H Q E h => ?_) (fun cdv A outer s H vs Q E hr h => ?_)
  · obtain ⟨p, g, rfl, _⟩ := h
    rfl
  obtain ⟨p, g, rfl, hS, hG, q⟩ := h
  have nd := scSteps.nd
  refine ⟨_, pss_cons (ps_set (i := 1) nd rfl (Or.inl rfl) (pe_lst pa_nil)) (pss_cons (ps_set (i := 2) nd rfl (Or.inl rfl) (pc hA hr (pa_cons (pv 0) pa_nil))) (pss_cons (ps_set (i := 3) nd rfl (Or.inl rfl) (pc hC hr (pa_cons (pv 0) (pa_cons (pv 2) pa_nil)))) (pss_cons
    (ps_while PassesOwn.never (pt_cmpR (op_neD hr.units) (pv 3) (pe_lst pa_nil) (nomark _)) (pss_cons (ps_set (i := 4) nd rfl (Or.inl rfl) (pe_ix ix_list (pv 3) pe_int (fun _ _ => rfl))) (pss_cons (ps_expr (pe_bm PySem.F.plainAttrs_list PySem.F.slot_list_append PySem.F.type_list_append mt_append (pv 1)
        (pa_cons (pe_ifExp (pt_cmpR op_eq (pe_op op_and (pe_ix ix_list (pv 0) (pv 4) (fun _ _ => rfl)) (pv 2)) pe_int (nomark _)) (pv 4) (pe_op op_add (pv 4) (pe_glob (v := .int 128) rfl mj ⟨_, rfl⟩))) pa_nil)))
      (pss_cons (ps_set (i := 2) nd rfl (Or.inl rfl) (pc hW hr (pa_cons (pv 2) (pa_cons (pe_op op_shl pe_int (pv 4)) pa_nil))))
      (pss_one (ps_set (i := 3) nd rfl (Or.inl rfl) (pc hC hr (pa_cons (pv 0) (pa_cons (pv 2) pa_nil)))))))))
    (pss_one (ps_ret (pv 1)))))), ?_⟩
  refine ⟨(by show 0 ≤ sizeLine; decide), fun ol hol => ?_⟩
  have s1 : Same H (upd H ol (.lst [])) := same_new hol _
  refine ⟨_, rfl, p, g, rfl, s1.seq hS, hG.len32, ?_⟩
  refine ⟨_, rfl, _, rfl, p, g, _, rfl, s1.seq hS, hG, by have := Nat.two_pow_pos g.length; omega, fun gl H1 hgl s2 hH1 => ?_⟩
  have hol1 : H1 ol = some (.lst []) := s2 _ _ upd_same
  refine ⟨fun m σ H' => ∃ (left : Nat) (o : List Nat) (gl : Addr) (x : Option V), m = left ∧ σ = [some (.ref p), some (.ref ol), some (.int (left : Int)), some (.ref gl), x] ∧ Same H H' ∧ H' ol = some (.lst (vN o)) ∧ H' gl = some (.lst (vN (canStep g left))) ∧ gl ≠ ol ∧ Stepping g o left,
    ⟨_, _, [], gl, _, rfl, rfl, s1.trans s2, hol1, hH1, (fun e => by rw [e, upd_same] at hgl; cases hgl), stepping_start hG⟩, ?_⟩
  rintro m σ H' ⟨left, o, gl, x, rfl, rfl, hs, ho, hg, hne, I⟩
  refine ⟨_, rfl, (by show 0 ≤ sizeLine; decide), fun t ht => ⟨_, _, .lst (SqL.of (by rw [upd_ne (ne_of_none hg ht)]; exact hg)) (dp_ints _), .lst (SqL.of upd_same) .nil, shaped_ints _, rfl, _, rfl, ?_⟩⟩
  rw [eqv_nil]
  have s3 : Same H' (upd H' t (.lst [])) := same_new ht _
  have ho' := s3 _ _ ho
  have hg' := s3 _ _ hg
  generalize upd H' t (.lst []) = H2 at s3 ho' hg'
  refine ite2 (fun c => ?_) (fun c => ?_)
  · cases e : canStep g m with
    | nil => rw [e] at c; simp at c
    | cons v r =>
      rw [e] at hg'
      have hv : v ∈ ofMask m := by
        have : v ∈ canStep g m := by rw [e]; exact List.mem_cons_self
        exact (List.mem_filter.mp this).1
      have vlt : v < g.length := tb_ltn I.lt (mem_of.mp hv).2
      have v32 := hG.len32
      have olen : o.length ≤ 32 := by have := I.len; omega
      have gat : atI (vN (v :: r)) 0 = some (.int (v : Int)) := vN_atI (l := v :: r) (i := 0) (by simp)
      refine ⟨_, fun _ _ z => z, ?_⟩
      refine ⟨_, rfl, gl, _, _, _, rfl, rfl, SqL.of hg', gat, ?_⟩
      refine ⟨_, rfl, .inl ⟨rfl, _, SqL.of ho'⟩, ?_⟩
      refine ⟨_, rfl, _, rfl, p, _, _, _, rfl, rfl, (hs.trans s3).seq hS, vN_atI vlt, _, rfl, _, _, rfl, rfl, rfl, _, rfl, ?_⟩
      have mlt : wo m (2 ^ v) < m := by
        have hb := (mem_of.mp hv).2
        have : m &&& 2 ^ v ≠ 0 := by
          intro z
          have : (m &&& 2 ^ v).testBit v = true := by rw [Nat.testBit_and, hb, tb_pow, decide_eq_true rfl]; rfl
          rw [z, Nat.zero_testBit] at this
          cases this
        have := Nat.and_le_left (n := m) (m := 2 ^ v)
        unfold wo
        omega
      have st := stepping_step hG I e
      refine iteE _ (eq_natE (b := 0) (v_and _ _) rfl) (fun c => ?_) (fun c => ?_)
      · have c : g.getD v 0 &&& m = 0 := of_decide_eq_true c
        have en : stepName g m v = v := by unfold stepName; rw [if_pos c]
        rw [en] at st
        refine ⟨_, rfl, ?_⟩
        refine ⟨ol, _, _, rfl, rfl, ho', by rw [vN_len]; exact small1000 (by omega), ?_⟩
        have hg2 : (upd H2 ol (.lst (vN o ++ [.int (v : Int)]))) gl = some (.lst (vN (v :: r))) := by rw [upd_ne hne]; exact hg'
        have s4 : Same H (upd H2 ol (.lst (vN o ++ [.int (v : Int)]))) := same_upd hol (hs.trans s3) _
        have ho2 : (upd H2 ol (.lst (vN o ++ [.int (v : Int)]))) ol = some (.lst (vN (o ++ [v]))) := by rw [upd_same, vN_app]; rfl
        generalize upd H2 ol (.lst (vN o ++ [.int (v : Int)])) = H3 at hg2 s4 ho2
        refine ⟨_, rfl, _, rfl, _, _, rfl, rfl, ⟨Int.natCast_nonneg _, by omega, by decide⟩, m, 2 ^ v, by (try dsimp only); rw [i_shl]; rfl, ?_⟩
        refine ⟨_, rfl, _, rfl, p, g, wo m (2 ^ v), rfl, s4.seq hS, hG, wo_lt I.lt, fun gl2 H4 n1 s5 hH4 => ?_⟩
        exact ⟨_, mlt, _, _, gl2, _, rfl, rfl, s4.trans s5, s5 _ _ ho2, hH4, (fun z => by rw [z, ho2] at n1; cases n1), st⟩
      · have c : ¬ g.getD v 0 &&& m = 0 := fun z => c (decide_eq_true z)
        have en : stepName g m v = (v + 128) := by unfold stepName; rw [if_neg c]
        rw [en] at st
        refine ⟨_, rfl, _, _, rfl, rfl, ?_⟩
        refine ⟨ol, _, _, rfl, rfl, ho', by rw [vN_len]; exact small1000 (by omega), ?_⟩
        have hg2 : (upd H2 ol (.lst (vN o ++ [.int ((v : Int) + 128)]))) gl = some (.lst (vN (v :: r))) := by rw [upd_ne hne]; exact hg'
        have s4 : Same H (upd H2 ol (.lst (vN o ++ [.int ((v : Int) + 128)]))) := same_upd hol (hs.trans s3) _
        have ho2 : (upd H2 ol (.lst (vN o ++ [.int ((v : Int) + 128)]))) ol = some (.lst (vN (o ++ [(v + 128)]))) := by rw [upd_same, vN_app]; rfl
        generalize upd H2 ol (.lst (vN o ++ [.int ((v : Int) + 128)])) = H3 at hg2 s4 ho2
        refine ⟨_, rfl, _, rfl, _, _, rfl, rfl, ⟨Int.natCast_nonneg _, by omega, by decide⟩, m, 2 ^ v, by (try dsimp only); rw [i_shl]; rfl, ?_⟩
        refine ⟨_, rfl, _, rfl, p, g, wo m (2 ^ v), rfl, s4.seq hS, hG, wo_lt I.lt, fun gl2 H4 n1 s5 hH4 => ?_⟩
        exact ⟨_, mlt, _, _, gl2, _, rfl, rfl, s4.trans s5, s5 _ _ ho2, hH4, (fun z => by rw [z, ho2] at n1; cases n1), st⟩
  · have e : canStep g m = [] := by
      cases e : canStep g m with
      | nil => rfl
      | cons v r => rw [e] at c; simp at c
    refine ⟨_, rfl, ?_⟩
    exact q o (stepping_end hG I e) (by have := I.len; have := hG.len32; omega) ol H2 hol (hs.trans s3) ho'
end
end Pg

set_option Elab.async false
set_option linter.all false
set_option maxRecDepth 100000
namespace Pg
open PySem L2 Gm Gx Sa79
section
variable {P : Program} {w : World} {K : PySem.W.Frag} {mg : Str → Option Value} {base : Heap} {f : Addr} {fd : FuncData}

/-! ### is_graph -/
abbrev sGraph : Stmt := top 2
def spGraph (K : PySem.W.Frag) : Sp := fun vs H Q _ => ∃ (p : Addr) (g : List Nat), vs = [.ref p] ∧ GL K H p g ∧ g.length ≤ 1000 ∧ Q (.bl (isGraph g)) H
theorem scGraph : FnScope ["g", "n", "u", "v"] ["g"] (defScope sGraph) := ⟨rfl, rfl, rfl, by decide +kernel, rfl, by decide +kernel, by decide +kernel⟩
theorem graph_false {g : G} (h : ¬ (1 ≤ g.length ∧ g.length ≤ 32 ∧ ∀ u, u < g.length → rowOk g u)) : isGraph g = false := by
  cases e : isGraph g with
  | false => rfl
  | true => exact absurd ((graph_iff g).mp e) h
theorem ok_graph (hH : Has P w K mg base "has_point" 1 ["mask", "u"] spHasPoint) (ml : mg "len" = none) (mr : mg "range" = none) {t : Tok} (mM : mg "MOST_POINTS" = some (.int 32 t)) (F : Fun K "is_graph" "is_graph" sGraph f fd) : FnOk P w K mg base CX0 2 f fd ["g"] (spGraph K) := by
  refine F.ok scGraph (fun vs H Q E h => ?_) (fun cdv A outer s H vs Q E hr h => ?_)
  · obtain ⟨p, g, rfl, _⟩ := h
    rfl
  obtain ⟨p, g, rfl, hS, hlen, q⟩ := h
  have nd := scGraph.nd
  refine ⟨_, pss_cons (ps_set (i := 1) nd rfl (Or.inl rfl) (pe_callB call_len_seq rfl ml PySem.boot_len (pa_cons (pv 0) pa_nil))) (pss_cons
    (ps_if (PW.pt (pw_or (pt_cmpR op_lt (pv 1) pe_int (nomark _)) (pw_or1 (pt_cmpR op_gt (pv 1) (pe_glob (v := .int 32) rfl mM ⟨_, rfl⟩) (nomark _))))) (pss_one (ps_ret pe_bl)) pss_nil) (pss_cons
    (ps_for PassesOwn.never rfl (pi_range1 rfl mr (pa_cons (pv 1) pa_nil)) (pg_name (i := 2) nd rfl (Or.inl rfl)) (pss_cons
      (ps_if (PW.pt (pw_or (pt_cmpR op_ne (pe_op op_shr (pe_ix ix_list (pv 0) (pv 2) (fun _ _ => rfl)) (pv 1)) pe_int (nomark _)) (pw_or1 (pt_val (pc hH hr (pa_cons (pe_ix ix_list (pv 0) (pv 2) (fun _ _ => rfl)) (pa_cons (pv 2) pa_nil))))))) (pss_one (ps_ret pe_bl)) pss_nil) (pss_one
      (ps_for PassesOwn.never rfl (pi_range1 rfl mr (pa_cons (pv 2) pa_nil)) (pg_name (i := 3) nd rfl (Or.inl rfl)) (pss_one
        (ps_if (pt_cmpR op_ne (pc hH hr (pa_cons (pe_ix ix_list (pv 0) (pv 2) (fun _ _ => rfl)) (pa_cons (pv 3) pa_nil))) (pc hH hr (pa_cons (pe_ix ix_list (pv 0) (pv 3) (fun _ _ => rfl)) (pa_cons (pv 2) pa_nil))) (nomark _)) (pss_one (ps_ret pe_bl)) pss_nil))))))
    (pss_one (ps_ret pe_bl)))), ?_⟩
  refine ⟨_, rfl, p, _, rfl, .inl hS, ?_⟩
  rw [vN_len]
  have qf : isGraph g = false → Q (.bl false) H := fun e => by rw [← e]; exact q
  refine ⟨_, rfl, _, _, rfl, rfl, _, rfl, ?_⟩
  refine ite2 (fun c => ?_) (fun c => ?_)
  · refine iteT ?_
    have c := of_decide_eq_true c
    exact qf (graph_false fun z => by have := z.1; omega)
  have h1 : 1 ≤ g.length := by
    have c : ¬ ((g.length : Int) < 1) := fun z => c (decide_eq_true z)
    omega
  refine ⟨_, rfl, _, _, rfl, rfl, _, rfl, ?_⟩
  refine ite2 (fun c => ?_) (fun c => ?_)
  · have c := of_decide_eq_true c
    exact qf (graph_false fun z => by have := z.2.1; omega)
  have h2 : g.length ≤ 32 := by
    have c : ¬ ((32 : Int) < (g.length : Int)) := fun z => c (decide_eq_true z)
    omega
  refine ⟨_, rfl, _, rfl, by omega, by omega, ?_⟩
  rw [Int.toNat_natCast]
  refine for_range (lo := 0) (n := g.length) (fun i σ H' => (∃ x y, σ = [some (.ref p), some (.int (g.length : Int)), x, y]) ∧ H' = H ∧ ∀ u, u < i → rowOk g u) ?_ ?_ ?_
  · exact ⟨⟨_, _, rfl⟩, rfl, fun u hu => absurd hu (Nat.not_lt_zero _)⟩
  · rintro u σ H' hu ⟨⟨x, y, rfl⟩, rfl, ok⟩
    have eu : (0 : Int) + (u : Nat) = ((u : Nat) : Int) := by omega
    rw [eu]
    refine ⟨_, rfl, _, rfl, p, _, _, _, rfl, rfl, hS, vN_atI hu, _, rfl, _, _, rfl, rfl, Int.natCast_nonneg _, rfl, _, rfl, ?_⟩
    refine iteE _ (ne_natE (b := 0) (v_shr _ _) rfl) (fun c => ?_) (fun c => ?_)
    · refine iteT (qf (graph_false fun z => ?_))
      have := (z.2.2 u hu).1
      rw [this] at c
      cases c
    have c1 : g.getD u 0 / 2 ^ g.length = 0 := by
      by_cases z : g.getD u 0 / 2 ^ g.length = 0
      · exact z
      · exact absurd (by rw [decide_eq_false z]; rfl) c
    refine ⟨_, rfl, _, rfl, p, _, _, _, rfl, rfl, hS, vN_atI hu, _, rfl, _, _, rfl, _, rfl, ?_⟩
    refine ite2 (fun d => ?_) (fun d => ?_)
    · refine qf (graph_false fun z => ?_)
      rw [(z.2.2 u hu).2.1] at d
      cases d
    have c2 : (g.getD u 0).testBit u = false := by simpa using d
    refine ⟨_, rfl, _, rfl, by omega, by omega, ?_⟩
    rw [Int.toNat_natCast]
    refine for_range (lo := 0) (n := u) (fun j σ H2 => (∃ y, σ = [some (.ref p), some (.int (g.length : Int)), some (.int (u : Int)), y]) ∧ H2 = H' ∧ ∀ v, v < j → (g.getD u 0).testBit v = (g.getD v 0).testBit u) ?_ ?_ ?_
    · exact ⟨⟨_, rfl⟩, rfl, fun v hv => absurd hv (Nat.not_lt_zero _)⟩
    · rintro v σ H' hv ⟨⟨y, rfl⟩, rfl, okv⟩
      have ev : (0 : Int) + (v : Nat) = ((v : Nat) : Int) := by omega
      rw [ev]
      refine ⟨_, rfl, _, rfl, p, _, _, _, rfl, rfl, hS, vN_atI hu, _, rfl, _, _, rfl, _, rfl, _, rfl, p, _, _, _, rfl, rfl, hS, vN_atI (l := g) (show v < g.length by omega), _, rfl, _, _, rfl, rfl, _, rfl, ?_⟩
      refine ite2 (fun e => ?_) (fun e => ?_)
      · refine qf (graph_false fun z => ?_)
        rw [(z.2.2 u hu).2.2 v hv] at e
        simp at e
      · refine ⟨⟨_, rfl⟩, rfl, fun v' hv' => ?_⟩
        by_cases z : v' = v
        · subst z
          simpa using e
        · exact okv v' (by omega)
    · rintro σ H' ⟨⟨y, rfl⟩, rfl, okv⟩
      refine ⟨⟨_, _, rfl⟩, rfl, fun u' hu' => ?_⟩
      by_cases z : u' = u
      · subst z
        exact ⟨c1, c2, okv⟩
      · exact ok u' (by omega)
  · rintro σ H' ⟨⟨x, y, rfl⟩, rfl, ok⟩
    have e : isGraph g = true := (graph_iff g).mpr ⟨h1, h2, ok⟩
    rw [e] at q
    exact q

/-! ### answer, refusal -/
abbrev sAnswer : Stmt := top 15
def ansV (n : Int) (xs ys : List V) : List V := [.int n, .int xs.length] ++ xs ++ [.int ys.length] ++ ys
def spAnswer : Sp := fun vs H Q _ => ∃ (n : Int) (r1 r2 : Addr) (xs ys : List V), vs = [.int n, .ref r1, .ref r2] ∧ H r1 = some (.lst xs) ∧ H r2 = some (.lst ys) ∧ xs.length ≤ 10000 ∧ ys.length ≤ 10000 ∧ New H Q (ansV n xs ys)
theorem scAnswer : FnScope ["number", "row", "second_row"] ["number", "row", "second_row"] (defScope sAnswer) := ⟨rfl, rfl, rfl, by decide +kernel, rfl, by decide +kernel, by decide +kernel⟩
theorem ok_answer (ml : mg "len" = none) (F : Fun K "answer" "answer" sAnswer f fd) : FnOk P w K mg base CX0 1 f fd ["number", "row", "second_row"] spAnswer := by
  refine F.ok scAnswer (fun vs H Q E h => ?_) (fun cdv A outer s H vs Q E hr h => ?_)
  · obtain ⟨n, r1, r2, xs, ys, rfl, _⟩ := h
    rfl
  obtain ⟨n, r1, r2, xs, ys, rfl, e1, e2, l1, l2, q⟩ := h
  have big : ∀ {k : Nat}, k ≤ 100000 → k ≤ sizeLine := fun {k} h => by rw [sizeLine_eq]; omega
  refine ⟨_, pss_one (ps_ret (pe_op op_cat (pe_op op_cat (pe_op op_cat (pe_lst (pa_cons (pv 0) (pa_cons (pe_callB call_len_seq rfl ml PySem.boot_len (pa_cons (pv 1) pa_nil)) pa_nil))) (pv 1)) (pe_lst (pa_cons (pe_callB call_len_seq rfl ml PySem.boot_len (pa_cons (pv 2) pa_nil)) pa_nil))) (pv 2))), ?_⟩
  refine ⟨_, rfl, _, rfl, r1, _, rfl, .inl (SqL.of e1), (by show 2 ≤ sizeLine; decide), fun a ha => ?_⟩
  have s1 : Same H (upd H a (.lst [.int n, .int (xs.length : Int)])) := same_new ha _
  have h1 : (upd H a (.lst [.int n, .int (xs.length : Int)])) a = some (.lst [.int n, .int (xs.length : Int)]) := upd_same
  generalize upd H a (.lst [.int n, .int (xs.length : Int)]) = H1 at s1 h1
  refine ⟨_, rfl, a, r1, _, _, rfl, rfl, h1, s1 _ _ e1, big (by simp; omega), fun b hb => ?_⟩
  have s2 : Same H1 (upd H1 b (.lst ([.int n, .int (xs.length : Int)] ++ xs))) := same_new hb _
  have h2 : (upd H1 b (.lst ([.int n, .int (xs.length : Int)] ++ xs))) b = some (.lst ([.int n, .int (xs.length : Int)] ++ xs)) := upd_same
  generalize upd H1 b (.lst ([.int n, .int (xs.length : Int)] ++ xs)) = H2 at s2 h2
  have s12 := s1.trans s2
  refine ⟨_, rfl, r2, _, rfl, .inl (SqL.of (s12 _ _ e2)), (by show 1 ≤ sizeLine; decide), fun c hc => ?_⟩
  have s3 : Same H2 (upd H2 c (.lst [.int (ys.length : Int)])) := same_new hc _
  have h3 : (upd H2 c (.lst [.int (ys.length : Int)])) c = some (.lst [.int (ys.length : Int)]) := upd_same
  generalize upd H2 c (.lst [.int (ys.length : Int)]) = H3 at s3 h3
  refine ⟨b, c, _, _, rfl, rfl, s3 _ _ h2, h3, big (by simp; omega), fun d hd => ?_⟩
  have s4 : Same H3 (upd H3 d (.lst ([.int n, .int (xs.length : Int)] ++ xs ++ [.int (ys.length : Int)]))) := same_new hd _
  have h4 : (upd H3 d (.lst ([.int n, .int (xs.length : Int)] ++ xs ++ [.int (ys.length : Int)]))) d = some (.lst ([.int n, .int (xs.length : Int)] ++ xs ++ [.int (ys.length : Int)])) := upd_same
  generalize upd H3 d (.lst ([.int n, .int (xs.length : Int)] ++ xs ++ [.int (ys.length : Int)])) = H4 at s4 h4
  have s04 := s12.trans (s3.trans s4)
  refine ⟨_, rfl, d, r2, _, _, rfl, rfl, h4, s04 _ _ e2, big (by simp; omega), fun e he => ?_⟩
  exact q e _ (s04.free he) (s04.trans (same_new he _)) upd_same
abbrev sRefusal : Stmt := top 16
def spRefusal : Sp := fun vs H Q _ => ∃ n : Int, vs = [.int n] ∧ New H Q (ansV n [] [])
theorem scRefusal : FnScope ["number"] ["number"] (defScope sRefusal) := ⟨rfl, rfl, rfl, by decide +kernel, rfl, by decide +kernel, by decide +kernel⟩
theorem ok_refusal (hA : Has P w K mg base "answer" 1 ["number", "row", "second_row"] spAnswer) (F : Fun K "refusal" "refusal" sRefusal f fd) : FnOk P w K mg base CX0 2 f fd ["number"] spRefusal := by
  refine F.ok scRefusal (fun vs H Q E h => ?_) (fun cdv A outer s H vs Q E hr h => ?_)
  · obtain ⟨n, rfl, _⟩ := h
    rfl
  obtain ⟨n, rfl, q⟩ := h
  refine ⟨_, pss_one (ps_ret (pc hA hr (pa_cons (pv 0) (pa_cons (pe_lst pa_nil) (pa_cons (pe_lst pa_nil) pa_nil))))), ?_⟩
  refine ⟨_, rfl, (by show 0 ≤ sizeLine; decide), fun a ha => ⟨(by show 0 ≤ sizeLine; decide), fun b hb => ?_⟩⟩
  have s1 : Same H (upd H a (.lst [])) := same_new ha _
  have s2 : Same (upd H a (.lst [])) (upd (upd H a (.lst [])) b (.lst [])) := same_new hb _
  exact ⟨n, a, b, [], [], rfl, s2 _ _ upd_same, upd_same, by simp, by simp, q.mono (s1.trans s2)⟩
theorem ansV_ans (n : Int) (l b : List Nat) : ansV n (vN l) (vN b) = (ans n l b).map V.int := by
  unfold ansV ans
  rw [vN_len, vN_len]
  simp only [vN, List.map_map, List.map_cons, List.map_append, List.cons_append, List.nil_append, List.append_assoc]
  rfl
end
end Pg

set_option Elab.async false
set_option linter.all false
set_option maxRecDepth 100000
namespace Pg
open PySem L2 Gm Gx Sa79
section
variable {P : Program} {w : World} {K : PySem.W.Frag} {mg : Str → Option Value} {base : Heap} {f : Addr} {fd : FuncData}
/-! ### pf_steps -/
abbrev sMain : Stmt := top 14
def spMain (K : PySem.W.Frag) : Sp := fun vs H Q _ => ∃ (p : Addr) (g : List Nat), vs = [.ref p] ∧ GL K H p g ∧ g.length ≤ 1000 ∧ ∀ r H', H' r = some (.lst ((PySa79.pf_steps (g.map fun (n : Nat) => (n : Int))).map V.int)) → Q (.ref r) H'
theorem scMain : FnScope ["g", "steps"] ["g"] (defScope sMain) := ⟨rfl, rfl, rfl, by decide +kernel, rfl, by decide +kernel, by decide +kernel⟩
theorem ok_main (hG : Has P w K mg base "is_graph" 2 ["g"] (spGraph K)) (hR : Has P w K mg base "refusal" 2 ["number"] spRefusal) (hA : Has P w K mg base "answer" 1 ["number", "row", "second_row"] spAnswer) (hO : Has P w K mg base "going_steps" 4 ["g"] (spSteps K)) (hF : Has P w K mg base "first_four" 3 ["g", "kinds"] (spFour K))
    (ml : mg "len" = none) {t : Tok} (mN : mg "NO_GRAPH" = some (.int (-2) t)) (c1 : TupC K mg "TWO_APART" [0, 0, 2]) (c2 : TupC K mg "ROW_OF_FOUR" [0, 1, 2]) (c3 : TupC K mg "RING_OF_FOUR" [0, 2, 2]) (F : Fun K "pf_steps" "pf_steps" sMain f fd) : FnOk P w K mg base CX0 8 f fd ["g"] (spMain K) := by
  refine F.ok scMain (fun vs H Q E h => ?_) (fun cdv A outer s H vs Q E hr h => ?_)
  · obtain ⟨p, g, rfl, _⟩ := h
    rfl
  obtain ⟨p, g, rfl, hS, hlen, q⟩ := h
  obtain ⟨t1, g1, k1⟩ := c1
  obtain ⟨t2, g2, k2⟩ := c2
  obtain ⟨t3, g3, k3⟩ := c3
  have nd := scMain.nd
  refine ⟨_, pss_cons (ps_if (pt_not (pt_val (pc hG hr (pa_cons (pv 0) pa_nil)))) (pss_one (ps_ret (pc hR hr (pa_cons (pe_glob (v := .int (-2)) rfl mN ⟨_, rfl⟩) pa_nil)))) pss_nil) (pss_cons
    (ps_set (i := 1) nd rfl (Or.inl rfl) (pc hO hr (pa_cons (pv 0) pa_nil))) (pss_cons
    (ps_if (pt_cmpR op_eq (pe_callB call_len_seq rfl ml PySem.boot_len (pa_cons (pv 1) pa_nil)) (pe_callB call_len_seq rfl ml PySem.boot_len (pa_cons (pv 0) pa_nil)) (nomark _)) (pss_one (ps_ret (pc hA hr (pa_cons pe_int (pa_cons (pv 1) (pa_cons (pe_lst pa_nil) pa_nil)))))) pss_nil)
    (pss_one (ps_ret (pc hA hr (pa_cons pe_int (pa_cons (pc hF hr (pa_cons (pv 0) (pa_cons (pe_tup (pa_cons (pe_glob (v := .ref t1) rfl g1 rfl) (pa_cons (pe_glob (v := .ref t2) rfl g2 rfl) (pa_cons (pe_glob (v := .ref t3) rfl g3 rfl) pa_nil)))) pa_nil))) (pa_cons (pe_lst pa_nil) pa_nil)))))))), ?_⟩
  rw [due_steps] at q
  refine ⟨_, rfl, p, g, rfl, hS, hlen, _, rfl, ?_⟩
  refine ite2 (fun c => ?_) (fun c => ?_)
  · have c : isGraph g = false := by simpa using c
    rw [if_pos c, ← ansV_ans] at q
    exact ⟨-2, rfl, fun r H' _ _ e => q r H' e⟩
  have c : isGraph g = true := by simpa using c
  have hGr := Gr.of c
  rw [if_neg (by rw [c]; decide)] at q
  refine ⟨_, rfl, p, g, rfl, hS, hGr, fun o go olen r1 H1 n1 s1 e1 => ?_⟩
  refine ⟨_, rfl, r1, _, rfl, .inl (SqL.of e1), _, rfl, p, _, rfl, .inl (s1.seq hS), rfl, _, rfl, ?_⟩
  rw [vN_len, vN_len, eq_nat]
  refine ite2 (fun d => ?_) (fun d => ?_)
  · have d := of_decide_eq_true d
    rcases go with ⟨eo, _⟩ | ⟨_, lt⟩
    · rw [eo] at q
      refine ⟨_, rfl, (by show 0 ≤ sizeLine; decide), fun r2 n2 => ?_⟩
      have s2 : Same H1 (upd H1 r2 (.lst [])) := same_new n2 _
      refine ⟨1, r1, r2, _, [], rfl, s2 _ _ e1, upd_same, by rw [vN_len]; omega, by simp, fun r H' _ _ e => q r H' ?_⟩
      rw [e]
      exact congrArg (fun z => some (HO.lst z)) (ansV_ans 1 o [])
    · omega
  · have d : ¬ o.length = g.length := fun z => d (decide_eq_true z)
    rcases go with ⟨_, le⟩ | ⟨eo, _⟩
    · exact absurd le d
    · rw [eo] at q
      refine ⟨_, rfl, (by show 3 ≤ sizeLine; decide), fun kp nk => ?_⟩
      have s2 : Same H1 (upd H1 kp (.tup [.ref t1, .ref t2, .ref t3])) := same_new nk _
      refine ⟨p, kp, g, [[0, 0, 2], [0, 1, 2], [0, 2, 2]], named g, rfl, (s1.trans s2).seq hS, hGr.len32, ⟨[t1, t2, t3], SqT.of upd_same, .cons (k1 _) (.cons (k2 _) (.cons (k3 _) .nil))⟩, fun a b c d h1 h2 h3 _ => in_named hGr h1 h2 h3, fun r2 H2 n2 s3 e2 => ?_⟩
      refine ⟨(by show 0 ≤ sizeLine; decide), fun r3 n3 => ?_⟩
      have s4 : Same H2 (upd H2 r3 (.lst [])) := same_new n3 _
      refine ⟨0, r2, r3, _, [], rfl, s4 _ _ e2, upd_same, ?_, by simp, fun r H' _ _ e => q r H' ?_⟩
      · rw [vN_len]
        cases z : (sets g.length 4).find? (named g) with
        | none => simp
        | some l =>
          have := (mem_sets.mp (List.mem_of_find?_eq_some z)).1
          simp [this]
      · rw [e]
        exact congrArg (fun z => some (HO.lst z)) (ansV_ans 0 _ [])
end
end Pg

namespace Pg
open PySem L2 Gm Gx Sa79
theorem all_mk {P : Program} {w : World} {K : PySem.W.Frag} {h : Heap} {mg : Str → Option Value} {fa f0 f1 f2 f3 f4 f5 f6 f7 f8 f9 f10 f11 f12 f13 : Addr} (X : K.In h) (G : h.Ns mainGlobals mg) (hfa : mg "pf_steps" = some (.ref fa))
    {od0 an0 od1 an1 od2 an2 od3 an3 od4 an4 od5 an5 od6 an6 od7 an7 od8 an8 od9 an9 od10 an10 od11 an11 od12 an12 od13 an13 : Option Addr} {sl0 sl1 sl2 sl3 sl4 sl5 sl6 sl7 sl8 sl9 sl10 sl11 sl12 sl13 : Array (Option Value)} {oc0 kV0 dc0 pm0 cd0 ct0 oc1 kV1 dc1 pm1 cd1 ct1 oc2 kV2 dc2 pm2 cd2 ct2 oc3 kV3 dc3 pm3 cd3 ct3 oc4 kV4 dc4 pm4 cd4 ct4 oc5 kV5 dc5 pm5 cd5 ct5 oc6 kV6 dc6 pm6 cd6 ct6 oc7 kV7 dc7 pm7 cd7 ct7 oc8 kV8 dc8 pm8 cd8 ct8 oc9 kV9 dc9 pm9 cd9 ct9 oc10 kV10 dc10 pm10 cd10 ct10 oc11 kV11 dc11 pm11 cd11 ct11 oc12 kV12 dc12 pm12 cd12 ct12 oc13 kV13 dc13 pm13 cd13 ct13 : Value} {tk0 tk1 tk2 : Tok}
    (a0 : PySem.W.nsIn K mainGlobals "has_point" = some (some (.ref f0))) (l0 : K.lookup f0 = some ⟨oc0, od0, .func (PySem.W.fnOf "has_point" "has_point" (defArgs sHasPoint) (defBody sHasPoint) (defScope sHasPoint) .none kV0 dc0 pm0 an0 cd0 ct0), sl0⟩) (c0 : PySem.W.codeIn K cd0 "has_point" = true) (k0 : PySem.W.keepIn K (.ref f0) = true)
    (a1 : PySem.W.nsIn K mainGlobals "all_points" = some (some (.ref f1))) (l1 : K.lookup f1 = some ⟨oc1, od1, .func (PySem.W.fnOf "all_points" "all_points" (defArgs sAllPoints) (defBody sAllPoints) (defScope sAllPoints) .none kV1 dc1 pm1 an1 cd1 ct1), sl1⟩) (c1 : PySem.W.codeIn K cd1 "all_points" = true) (k1 : PySem.W.keepIn K (.ref f1) = true)
    (a2 : PySem.W.nsIn K mainGlobals "without" = some (some (.ref f2))) (l2 : K.lookup f2 = some ⟨oc2, od2, .func (PySem.W.fnOf "without" "without" (defArgs sWithout) (defBody sWithout) (defScope sWithout) .none kV2 dc2 pm2 an2 cd2 ct2), sl2⟩) (c2 : PySem.W.codeIn K cd2 "without" = true) (k2 : PySem.W.keepIn K (.ref f2) = true)
    (a3 : PySem.W.nsIn K mainGlobals "least_point" = some (some (.ref f3))) (l3 : K.lookup f3 = some ⟨oc3, od3, .func (PySem.W.fnOf "least_point" "least_point" (defArgs sLeastPoint) (defBody sLeastPoint) (defScope sLeastPoint) .none kV3 dc3 pm3 an3 cd3 ct3), sl3⟩) (c3 : PySem.W.codeIn K cd3 "least_point" = true) (k3 : PySem.W.keepIn K (.ref f3) = true)
    (a4 : PySem.W.nsIn K mainGlobals "points_of" = some (some (.ref f4))) (l4 : K.lookup f4 = some ⟨oc4, od4, .func (PySem.W.fnOf "points_of" "points_of" (defArgs sPointsOf) (defBody sPointsOf) (defScope sPointsOf) .none kV4 dc4 pm4 an4 cd4 ct4), sl4⟩) (c4 : PySem.W.codeIn K cd4 "points_of" = true) (k4 : PySem.W.keepIn K (.ref f4) = true)
    (a5 : PySem.W.nsIn K mainGlobals "is_graph" = some (some (.ref f5))) (l5 : K.lookup f5 = some ⟨oc5, od5, .func (PySem.W.fnOf "is_graph" "is_graph" (defArgs sGraph) (defBody sGraph) (defScope sGraph) .none kV5 dc5 pm5 an5 cd5 ct5), sl5⟩) (c5 : PySem.W.codeIn K cd5 "is_graph" = true) (k5 : PySem.W.keepIn K (.ref f5) = true)
    (a6 : PySem.W.nsIn K mainGlobals "answer" = some (some (.ref f6))) (l6 : K.lookup f6 = some ⟨oc6, od6, .func (PySem.W.fnOf "answer" "answer" (defArgs sAnswer) (defBody sAnswer) (defScope sAnswer) .none kV6 dc6 pm6 an6 cd6 ct6), sl6⟩) (c6 : PySem.W.codeIn K cd6 "answer" = true) (k6 : PySem.W.keepIn K (.ref f6) = true)
    (a7 : PySem.W.nsIn K mainGlobals "refusal" = some (some (.ref f7))) (l7 : K.lookup f7 = some ⟨oc7, od7, .func (PySem.W.fnOf "refusal" "refusal" (defArgs sRefusal) (defBody sRefusal) (defScope sRefusal) .none kV7 dc7 pm7 an7 cd7 ct7), sl7⟩) (c7 : PySem.W.codeIn K cd7 "refusal" = true) (k7 : PySem.W.keepIn K (.ref f7) = true)
    (a8 : PySem.W.nsIn K mainGlobals "joined_pairs" = some (some (.ref f8))) (l8 : K.lookup f8 = some ⟨oc8, od8, .func (PySem.W.fnOf "joined_pairs" "joined_pairs" (defArgs sJp) (defBody sJp) (defScope sJp) .none kV8 dc8 pm8 an8 cd8 ct8), sl8⟩) (c8 : PySem.W.codeIn K cd8 "joined_pairs" = true) (k8 : PySem.W.keepIn K (.ref f8) = true)
    (a9 : PySem.W.nsIn K mainGlobals "kind_of_four" = some (some (.ref f9))) (l9 : K.lookup f9 = some ⟨oc9, od9, .func (PySem.W.fnOf "kind_of_four" "kind_of_four" (defArgs sKind) (defBody sKind) (defScope sKind) .none kV9 dc9 pm9 an9 cd9 ct9), sl9⟩) (c9 : PySem.W.codeIn K cd9 "kind_of_four" = true) (k9 : PySem.W.keepIn K (.ref f9) = true)
    (a10 : PySem.W.nsIn K mainGlobals "first_four" = some (some (.ref f10))) (l10 : K.lookup f10 = some ⟨oc10, od10, .func (PySem.W.fnOf "first_four" "first_four" (defArgs sFour) (defBody sFour) (defScope sFour) .none kV10 dc10 pm10 an10 cd10 ct10), sl10⟩) (c10 : PySem.W.codeIn K cd10 "first_four" = true) (k10 : PySem.W.keepIn K (.ref f10) = true)
    (a11 : PySem.W.nsIn K mainGlobals "points_with_none_or_all" = some (some (.ref f11))) (l11 : K.lookup f11 = some ⟨oc11, od11, .func (PySem.W.fnOf "points_with_none_or_all" "points_with_none_or_all" (defArgs sNa) (defBody sNa) (defScope sNa) .none kV11 dc11 pm11 an11 cd11 ct11), sl11⟩) (c11 : PySem.W.codeIn K cd11 "points_with_none_or_all" = true) (k11 : PySem.W.keepIn K (.ref f11) = true)
    (a12 : PySem.W.nsIn K mainGlobals "going_steps" = some (some (.ref f12))) (l12 : K.lookup f12 = some ⟨oc12, od12, .func (PySem.W.fnOf "going_steps" "going_steps" (defArgs sSteps) (defBody sSteps) (defScope sSteps) .none kV12 dc12 pm12 an12 cd12 ct12), sl12⟩) (c12 : PySem.W.codeIn K cd12 "going_steps" = true) (k12 : PySem.W.keepIn K (.ref f12) = true)
    (a13 : PySem.W.nsIn K mainGlobals "pf_steps" = some (some (.ref f13))) (l13 : K.lookup f13 = some ⟨oc13, od13, .func (PySem.W.fnOf "pf_steps" "pf_steps" (defArgs sMain) (defBody sMain) (defScope sMain) .none kV13 dc13 pm13 an13 cd13 ct13), sl13⟩) (c13 : PySem.W.codeIn K cd13 "pf_steps" = true) (k13 : PySem.W.keepIn K (.ref f13) = true)
    (z_len : PySem.W.nsIn K mainGlobals "len" = some none)
    (z_range : PySem.W.nsIn K mainGlobals "range" = some none)
    (z_sorted : PySem.W.nsIn K mainGlobals "sorted" = some none)
    (z_tuple : PySem.W.nsIn K mainGlobals "tuple" = some none)
    (v_MOST_POINTS : PySem.W.nsIn K mainGlobals "MOST_POINTS" = some (some (.int 32 tk0)))
    (v_NO_GRAPH : PySem.W.nsIn K mainGlobals "NO_GRAPH" = some (some (.int (-2) tk1)))
    (v_WAS_JOINED_TO_ALL : PySem.W.nsIn K mainGlobals "WAS_JOINED_TO_ALL" = some (some (.int 128 tk2)))
    {q0 : Addr} {qd0 : Option Addr} {qn0 : Nat} {qs0 : Array (Option Value)} {qk0_0 qk0_1 qk0_2 : Tok} (v_TWO_APART : PySem.W.nsIn K mainGlobals "TWO_APART" = some (some (.ref q0))) (w_TWO_APART : K.lookup q0 = some ⟨.type "tuple", qd0, .seq #[.int 0 qk0_0, .int 0 qk0_1, .int 2 qk0_2] qn0, qs0⟩)
    {q1 : Addr} {qd1 : Option Addr} {qn1 : Nat} {qs1 : Array (Option Value)} {qk1_0 qk1_1 qk1_2 : Tok} (v_ROW_OF_FOUR : PySem.W.nsIn K mainGlobals "ROW_OF_FOUR" = some (some (.ref q1))) (w_ROW_OF_FOUR : K.lookup q1 = some ⟨.type "tuple", qd1, .seq #[.int 0 qk1_0, .int 1 qk1_1, .int 2 qk1_2] qn1, qs1⟩)
    {q2 : Addr} {qd2 : Option Addr} {qn2 : Nat} {qs2 : Array (Option Value)} {qk2_0 qk2_1 qk2_2 : Tok} (v_RING_OF_FOUR : PySem.W.nsIn K mainGlobals "RING_OF_FOUR" = some (some (.ref q2))) (w_RING_OF_FOUR : K.lookup q2 = some ⟨.type "tuple", qd2, .seq #[.int 0 qk2_0, .int 2 qk2_1, .int 2 qk2_2] qn2, qs2⟩) :
    ∃ fd : FuncData, (∀ (s : Shared) (v : Value), BindsTo s fd ⟨[v], []⟩ [("g", v)]) ∧ ∀ base : Heap, K.In base → base.Ns mainGlobals mg → FnOk P w K mg base CX0 8 fa fd ["g"] (spMain K) := by
  have e := hfa.symm.trans (PySem.W.mg_of X G a13)
  cases e
  have m_len := PySem.W.mg_none_of X G z_len
  have m_range := PySem.W.mg_none_of X G z_range
  have m_sorted := PySem.W.mg_none_of X G z_sorted
  have m_tuple := PySem.W.mg_none_of X G z_tuple
  have m_MOST_POINTS := PySem.W.mg_of X G v_MOST_POINTS
  have m_NO_GRAPH := PySem.W.mg_of X G v_NO_GRAPH
  have m_WAS_JOINED_TO_ALL := PySem.W.mg_of X G v_WAS_JOINED_TO_ALL
  have m_TWO_APART : TupC K mg "TWO_APART" [0, 0, 2] := tupC_of (PySem.W.mg_of X G v_TWO_APART) w_TWO_APART rfl rfl (by show 3 ≤ 100; decide) (vals_cons (vals_cons (vals_cons (vals_nil))))
  have m_ROW_OF_FOUR : TupC K mg "ROW_OF_FOUR" [0, 1, 2] := tupC_of (PySem.W.mg_of X G v_ROW_OF_FOUR) w_ROW_OF_FOUR rfl rfl (by show 3 ≤ 100; decide) (vals_cons (vals_cons (vals_cons (vals_nil))))
  have m_RING_OF_FOUR : TupC K mg "RING_OF_FOUR" [0, 2, 2] := tupC_of (PySem.W.mg_of X G v_RING_OF_FOUR) w_RING_OF_FOUR rfl rfl (by show 3 ≤ 100; decide) (vals_cons (vals_cons (vals_cons (vals_nil))))
  have F0 := fun_mk (st := sHasPoint) l0 c0 k0
  have b0 := F0.binds (ps := ["mask", "u"]) fun _ _ _ _ _ _ us hl => match us, hl with | [_, _], _ => rfl
  have F1 := fun_mk (st := sAllPoints) l1 c1 k1
  have b1 := F1.binds (ps := ["g"]) fun _ _ _ _ _ _ us hl => match us, hl with | [_], _ => rfl
  have F2 := fun_mk (st := sWithout) l2 c2 k2
  have b2 := F2.binds (ps := ["mask", "taken"]) fun _ _ _ _ _ _ us hl => match us, hl with | [_, _], _ => rfl
  have F3 := fun_mk (st := sLeastPoint) l3 c3 k3
  have b3 := F3.binds (ps := ["mask"]) fun _ _ _ _ _ _ us hl => match us, hl with | [_], _ => rfl
  have F4 := fun_mk (st := sPointsOf) l4 c4 k4
  have b4 := F4.binds (ps := ["mask"]) fun _ _ _ _ _ _ us hl => match us, hl with | [_], _ => rfl
  have F5 := fun_mk (st := sGraph) l5 c5 k5
  have b5 := F5.binds (ps := ["g"]) fun _ _ _ _ _ _ us hl => match us, hl with | [_], _ => rfl
  have F6 := fun_mk (st := sAnswer) l6 c6 k6
  have b6 := F6.binds (ps := ["number", "row", "second_row"]) fun _ _ _ _ _ _ us hl => match us, hl with | [_, _, _], _ => rfl
  have F7 := fun_mk (st := sRefusal) l7 c7 k7
  have b7 := F7.binds (ps := ["number"]) fun _ _ _ _ _ _ us hl => match us, hl with | [_], _ => rfl
  have F8 := fun_mk (st := sJp) l8 c8 k8
  have b8 := F8.binds (ps := ["g", "a", "b", "c", "d"]) fun _ _ _ _ _ _ us hl => match us, hl with | [_, _, _, _, _], _ => rfl
  have F9 := fun_mk (st := sKind) l9 c9 k9
  have b9 := F9.binds (ps := ["g", "a", "b", "c", "d"]) fun _ _ _ _ _ _ us hl => match us, hl with | [_, _, _, _, _], _ => rfl
  have F10 := fun_mk (st := sFour) l10 c10 k10
  have b10 := F10.binds (ps := ["g", "kinds"]) fun _ _ _ _ _ _ us hl => match us, hl with | [_, _], _ => rfl
  have F11 := fun_mk (st := sNa) l11 c11 k11
  have b11 := F11.binds (ps := ["g", "left"]) fun _ _ _ _ _ _ us hl => match us, hl with | [_, _], _ => rfl
  have F12 := fun_mk (st := sSteps) l12 c12 k12
  have b12 := F12.binds (ps := ["g"]) fun _ _ _ _ _ _ us hl => match us, hl with | [_], _ => rfl
  have F13 := fun_mk (st := sMain) l13 c13 k13
  refine ⟨PySem.W.fnOf "pf_steps" "pf_steps" (defArgs sMain) (defBody sMain) (defScope sMain) .none kV13 dc13 pm13 an13 cd13 ct13, fun s v => .of_eq rfl, fun base _ _ => ?_⟩
  have h_has_point : Has P w K mg base "has_point" 1 ["mask", "u"] spHasPoint := ⟨⟨_, _, ok_has_point  F0, b0, k0, PySem.W.mg_of X G a0⟩⟩
  have h_all_points : Has P w K mg base "all_points" 1 ["g"] (spAllPoints K) := ⟨⟨_, _, ok_all_points m_len F1, b1, k1, PySem.W.mg_of X G a1⟩⟩
  have h_without : Has P w K mg base "without" 1 ["mask", "taken"] spWithout := ⟨⟨_, _, ok_without  F2, b2, k2, PySem.W.mg_of X G a2⟩⟩
  have h_least_point : Has P w K mg base "least_point" 1 ["mask"] spLeastPoint := ⟨⟨_, _, ok_least_point  F3, b3, k3, PySem.W.mg_of X G a3⟩⟩
  have h_points_of : Has P w K mg base "points_of" 2 ["mask"] spPointsOf := ⟨⟨_, _, ok_points_of h_least_point h_without F4, b4, k4, PySem.W.mg_of X G a4⟩⟩
  have h_is_graph : Has P w K mg base "is_graph" 2 ["g"] (spGraph K) := ⟨⟨_, _, ok_graph h_has_point m_len m_range m_MOST_POINTS F5, b5, k5, PySem.W.mg_of X G a5⟩⟩
  have h_answer : Has P w K mg base "answer" 1 ["number", "row", "second_row"] spAnswer := ⟨⟨_, _, ok_answer m_len F6, b6, k6, PySem.W.mg_of X G a6⟩⟩
  have h_refusal : Has P w K mg base "refusal" 2 ["number"] spRefusal := ⟨⟨_, _, ok_refusal h_answer F7, b7, k7, PySem.W.mg_of X G a7⟩⟩
  have h_joined_pairs : Has P w K mg base "joined_pairs" 1 ["g", "a", "b", "c", "d"] (spJp K) := ⟨⟨_, _, ok_jp  F8, b8, k8, PySem.W.mg_of X G a8⟩⟩
  have h_kind_of_four : Has P w K mg base "kind_of_four" 2 ["g", "a", "b", "c", "d"] (spKind K) := ⟨⟨_, _, ok_kind h_joined_pairs m_sorted m_tuple F9, b9, k9, PySem.W.mg_of X G a9⟩⟩
  have h_first_four : Has P w K mg base "first_four" 3 ["g", "kinds"] (spFour K) := ⟨⟨_, _, ok_four h_kind_of_four m_len m_range F10, b10, k10, PySem.W.mg_of X G a10⟩⟩
  have h_points_with_none_or_all : Has P w K mg base "points_with_none_or_all" 3 ["g", "left"] (spNa K) := ⟨⟨_, _, ok_na h_points_of h_without F11, b11, k11, PySem.W.mg_of X G a11⟩⟩
  have h_going_steps : Has P w K mg base "going_steps" 4 ["g"] (spSteps K) := ⟨⟨_, _, ok_steps h_all_points h_points_with_none_or_all h_without m_WAS_JOINED_TO_ALL F12, b12, k12, PySem.W.mg_of X G a12⟩⟩
  exact ok_main h_is_graph h_refusal h_answer h_going_steps h_first_four m_len m_NO_GRAPH m_TWO_APART m_ROW_OF_FOUR m_RING_OF_FOUR F13
theorem as_nats {ns : List Int} (h : ∀ z ∈ ns, (0 : Int) ≤ z ∧ z ≤ 4294967295) : ns = (ns.map Int.toNat).map fun (n : Nat) => (n : Int) := by
  rw [List.map_map]
  conv => lhs; rw [← List.map_id ns]
  refine List.map_congr_left fun z hz => ?_
  have := (h z hz).1
  show z = ((z.toNat : Nat) : Int)
  omega
theorem said : PySem.Challenge.rw_plaingraphs_s08_pf_steps.wellSaid = true := by decide +kernel
end Pg
open PySem PySem.W PyProof.Rows
set_option maxRecDepth 100000 in
set_option maxHeartbeats 0 in
theorem PySem.Challenge.cw_plaingraphs_s08_pf_steps_holds : PySem.Challenge.rw_plaingraphs_s08_pf_steps.Holds := by
  w_on; k_headS; (case hw => exact ⟨[.list []], by decide +kernel, by decide +kernel⟩)
  k_fillS
  refine Gx.spec_walk (least := 0) (most := 32) (lo := 0) (hi := 4294967295) (k := 8) (x := "g") (sp := Pg.spMain) rfl Pg.said (by decide) rfl ⟨rfl, by decide, by decide⟩ (fun w h Y => PySem.W.kIn_of Y) ?F ?S
  case F =>
    intro w mg fa h KX G hmg
    refine' Pg.all_mk KX G hmg ?a0 ?l0 ?c0 ?k0 ?a1 ?l1 ?c1 ?k1 ?a2 ?l2 ?c2 ?k2 ?a3 ?l3 ?c3 ?k3 ?a4 ?l4 ?c4 ?k4 ?a5 ?l5 ?c5 ?k5 ?a6 ?l6 ?c6 ?k6 ?a7 ?l7 ?c7 ?k7 ?a8 ?l8 ?c8 ?k8 ?a9 ?l9 ?c9 ?k9 ?a10 ?l10 ?c10 ?k10 ?a11 ?l11 ?c11 ?k11 ?a12 ?l12 ?c12 ?k12 ?a13 ?l13 ?c13 ?k13 ?z_len ?z_range ?z_sorted ?z_tuple ?v_MOST_POINTS ?v_NO_GRAPH ?v_WAS_JOINED_TO_ALL ?v_TWO_APART ?w_TWO_APART ?v_ROW_OF_FOUR ?w_ROW_OF_FOUR ?v_RING_OF_FOUR ?w_RING_OF_FOUR
    (case a0 => k_is)
    (case l0 => k_is)
    (case c0 => k_is)
    (case k0 => k_is)
    (case a1 => k_is)
    (case l1 => k_is)
    (case c1 => k_is)
    (case k1 => k_is)
    (case a2 => k_is)
    (case l2 => k_is)
    (case c2 => k_is)
    (case k2 => k_is)
    (case a3 => k_is)
    (case l3 => k_is)
    (case c3 => k_is)
    (case k3 => k_is)
    (case a4 => k_is)
    (case l4 => k_is)
    (case c4 => k_is)
    (case k4 => k_is)
    (case a5 => k_is)
    (case l5 => k_is)
    (case c5 => k_is)
    (case k5 => k_is)
    (case a6 => k_is)
    (case l6 => k_is)
    (case c6 => k_is)
    (case k6 => k_is)
    (case a7 => k_is)
    (case l7 => k_is)
    (case c7 => k_is)
    (case k7 => k_is)
    (case a8 => k_is)
    (case l8 => k_is)
    (case c8 => k_is)
    (case k8 => k_is)
    (case a9 => k_is)
    (case l9 => k_is)
    (case c9 => k_is)
    (case k9 => k_is)
    (case a10 => k_is)
    (case l10 => k_is)
    (case c10 => k_is)
    (case k10 => k_is)
    (case a11 => k_is)
    (case l11 => k_is)
    (case c11 => k_is)
    (case k11 => k_is)
    (case a12 => k_is)
    (case l12 => k_is)
    (case c12 => k_is)
    (case k12 => k_is)
    (case a13 => k_is)
    (case l13 => k_is)
    (case c13 => k_is)
    (case k13 => k_is)
    (case z_len => k_is)
    (case z_range => k_is)
    (case z_sorted => k_is)
    (case z_tuple => k_is)
    (case v_MOST_POINTS => k_is)
    (case v_NO_GRAPH => k_is)
    (case v_WAS_JOINED_TO_ALL => k_is)
    (case v_TWO_APART => k_is)
    (case w_TWO_APART => k_is)
    (case v_ROW_OF_FOUR => k_is)
    (case w_ROW_OF_FOUR => k_is)
    (case v_RING_OF_FOUR => k_is)
    (case w_RING_OF_FOUR => k_is)
  case S =>
    intro w H a ns hl hz hS
    refine ⟨a, ns.map Int.toNat, rfl, ?_, by rw [List.length_map]; omega, fun r H' e => ⟨r, rfl, ?_⟩⟩
    · have e := Pg.as_nats hz
      rw [e] at hS
      rw [List.map_map] at hS
      exact hS
    · rw [← Pg.as_nats hz] at e
      exact e
#print axioms PySem.Challenge.cw_plaingraphs_s08_pf_steps_holds

