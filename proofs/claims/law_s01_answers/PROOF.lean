import PyProof.Rows.All
import Wide.All
import OpenK.AllK
import Wide.FinOn
import PyProof.EqAt
import PyProof.EqKinds
import PyProof.TupleCall
import KE.BitLaws
import Open.SpecLaws
import KE.OsHead
import KE.OsGo
import KE.KLam
import KE.KSortKey
import KE.KSortTupG
import KE.KNestM
import PySem.Challenge.RW_bladesets_s01_answers
set_option Elab.async false
set_option linter.all false
set_option maxRecDepth 100000
set_option maxHeartbeats 2000000
/-! THE HAND LAYER, for ints, bools, texts, own classes, lists, tuples, dicts, comprehensions, walks over dicts, enumerate, zip, reversed, texts, calls, loops. Paste it whole ahead of your own text; what your proof does not reach may be deleted. -/
namespace L2
open PySem PySem.Spec PyProof.Rows
/-- a key: an int or a str -/
abbrev Key := Sum Int Str
def keyIs : Key → Value → Bool
  | .inl k, v => Value.isInt k v
  | .inr x, v => Value.isStrOf x v
def keyH (w : World) : Key → Int
  | .inl k => hashInt k
  | .inr x => hashStr w x
theorem keyIs_shape : ∀ {k : Key} {v : Value}, keyIs k v = true → (∃ i t, k = Sum.inl i ∧ v = Value.int i t) ∨ (∃ x t, k = Sum.inr x ∧ v = Value.str x t)
  | .inl i, v, h => by
    obtain ⟨t, e⟩ := Value.isInt_shape (k := i) (v := v) h
    exact .inl ⟨i, t, rfl, e⟩
  | .inr x, v, h => by
    obtain ⟨t, e⟩ := Value.isStrOf_shape (x := x) (v := v) h
    exact .inr ⟨x, t, rfl, e⟩
theorem keyIs_int (i : Int) (t : Tok) : keyIs (.inl i) (.int i t) = true := by simp [keyIs, Value.isInt]
theorem keyIs_str (x : Str) (t : Tok) : keyIs (.inr x) (.str x t) = true := by simp [keyIs, Value.isStrOf]
theorem key_ll (a b : Int) : decide ((Sum.inl a : Key) = Sum.inl b) = (a == b) := by
  by_cases e : a = b
  · subst e; simp
  · have h : ¬ (Sum.inl a : Key) = Sum.inl b := fun q => e (Sum.inl.inj q)
    rw [decide_eq_false h]
    exact (beq_eq_false_iff_ne.mpr e).symm
theorem key_rr (a b : Str) : decide ((Sum.inr a : Key) = Sum.inr b) = decide (a = b) := by
  by_cases e : a = b
  · subst e; simp
  · have h : ¬ (Sum.inr a : Key) = Sum.inr b := fun q => e (Sum.inr.inj q)
    rw [decide_eq_false h, decide_eq_false e]
theorem key_lr (a : Int) (b : Str) : decide ((Sum.inl a : Key) = Sum.inr b) = false := decide_eq_false (fun q => nomatch q)
theorem key_rl (a : Str) (b : Int) : decide ((Sum.inr a : Key) = Sum.inl b) = false := decide_eq_false (fun q => nomatch q)
def mixKind (prog : Program) (w : World) : PySem.KeyKind prog w Key where
  is := keyIs
  hash := keyH w
  inj := fun v a b ha hb => by
    rcases keyIs_shape ha with ⟨i, t, rfl, rfl⟩ | ⟨x, t, rfl, rfl⟩
    · rcases keyIs_shape hb with ⟨j, u, rfl, e⟩ | ⟨y, u, rfl, e⟩
      · injection e with e1 _; rw [e1]
      · exact nomatch e
    · rcases keyIs_shape hb with ⟨j, u, rfl, e⟩ | ⟨y, u, rfl, e⟩
      · exact nomatch e
      · injection e with e1 _; rw [e1]
  byValue := fun k v h => by
    rcases keyIs_shape h with ⟨i, t, rfl, rfl⟩ | ⟨x, t, rfl, rfl⟩ <;> rfl
  pyHash := fun hv h => by
    rcases keyIs_shape hv with ⟨i, t, rfl, rfl⟩ | ⟨x, t, rfl, rfl⟩
    · exact wpAny_pyHash_int h
    · exact wpAny_pyHash_str h
  eqBool := fun hu hv h => by
    rcases keyIs_shape hu with ⟨i, t, rfl, rfl⟩ | ⟨x, t, rfl, rfl⟩
    · rcases keyIs_shape hv with ⟨j, u, rfl, rfl⟩ | ⟨y, u, rfl, rfl⟩
      · rw [key_ll] at h; exact wpAny_eqBool_int h
      · rw [key_lr] at h; exact SeqAt.EqAt.int_str i t y u _ _ _ _ h
    · rcases keyIs_shape hv with ⟨j, u, rfl, rfl⟩ | ⟨y, u, rfl, rfl⟩
      · rw [key_rl] at h; exact SeqAt.EqAt.str_int x t j u _ _ _ _ h
      · rw [key_rr] at h; exact wpAny_eqBool_str h
  «strs» := fun k x t v h => by
    rcases keyIs_shape h with ⟨i, u, rfl, e⟩ | ⟨y, u, rfl, e⟩
    · exact nomatch e
    · injection e with e1 _
      subst e1
      cases v <;> rfl
theorem mixKind_int (prog : Program) (w : World) (i : Int) (t : Tok) : (mixKind prog w).is (.inl i) (.int i t) = true := keyIs_int i t
theorem mixKind_str (prog : Program) (w : World) (x : Str) (t : Tok) : (mixKind prog w).is (.inr x) (.str x t) = true := keyIs_str x t
end L2
namespace L2
open PySem PySem.Spec PyProof.Rows
/-- a value, without the heap -/
inductive V where
  | non | bl (b : Bool) | int (i : Int) | str (x : Str) | byt (b : Array UInt8) | flt (b : UInt64) | ref (a : Addr) | ty (n : String)
  deriving DecidableEq
def RelV : V → Value → Prop
  | .non, u => u = Value.none
  | .bl b, u => u = Value.bool b
  | .int i, u => ∃ t, u = Value.int i t
  | .str x, u => ∃ t, u = Value.str x t
  | .byt b, u => ∃ t, u = Value.bytes b t
  | .flt b, u => ∃ t, u = Value.float b t
  | .ref a, u => u = Value.ref a
  | .ty n, u => u = Value.type n
abbrev Vals : List V → List Value → Prop := Paired RelV
theorem Vals.length {xs : List V} {us : List Value} (r : Vals xs us) : xs.length = us.length := Paired.length r
theorem Vals.get : ∀ {xs : List V} {us : List Value} {i : Nat} {x : V}, Vals xs us → xs[i]? = some x → ∃ u, us[i]? = some u ∧ RelV x u
  | _, _, _, _, .nil, e => by simp at e
  | _, _, 0, _, .cons r _, e => by simp at e; subst e; exact ⟨_, rfl, r⟩
  | _, _, i + 1, x, .cons _ t, e => by
    obtain ⟨u, h1, h2⟩ := Vals.get (i := i) (x := x) t (by simpa using e)
    exact ⟨u, by simpa using h1, h2⟩
theorem Vals.append : ∀ {xs ys : List V} {us ws : List Value}, Vals xs us → Vals ys ws → Vals (xs ++ ys) (us ++ ws)
  | _, _, _, _, .nil, s => s
  | _, _, _, _, .cons r t, s => .cons r (Vals.append t s)
theorem Vals.take : ∀ {xs : List V} {us : List Value} (n : Nat), Vals xs us → Vals (xs.take n) (us.take n)
  | _, _, 0, _ => .nil
  | _, _, _ + 1, .nil => .nil
  | _, _, n + 1, .cons r t => .cons r (Vals.take n t)
theorem Vals.drop : ∀ {xs : List V} {us : List Value} (n : Nat), Vals xs us → Vals (xs.drop n) (us.drop n)
  | _, _, 0, r => r
  | _, _, _ + 1, .nil => .nil
  | _, _, n + 1, .cons _ t => Vals.drop n t
def RelO : Option V → Option Value → Prop
  | some v, some u => RelV v u
  | none, none => True
  | _, _ => False
def KV {κ : Type} : List (κ × V) → List (κ × Value) → Prop := Paired fun (p : κ × V) (q : κ × Value) => p.1 = q.1 ∧ RelV p.2 q.2
/-- a key of a dict (00_mix): an int or a text -/
def kV : Key → V
  | .inl i => .int i
  | .inr x => .str x
/-- what stands at a tracked address -/
inductive HO where
  /-- a list -/
  | lst (xs : List V)
  /-- a tuple (never changes) -/
  | tup (xs : List V)
  /-- a dict whose keys are ints and texts; one whose keys are tuples of ints and texts (the empty one is both) -/
  | dK (kvs : List (Key × V)) | dT (kvs : List (List Key × V))
  /-- a set of ints: its members, its size -/
  | set (S : Int → Bool) (n : Nat)
  /-- an instance of the class at C, its dict at dx, its attributes -/
  | ins (C dx : Addr) (fs : List (Str × V))
  /-- the dict of the instance at x -/
  | own (x : Addr)
  /-- the dict of an exception -/
  | xd (fs : List (Str × V))
  /-- a bound method, f of x -/
  | met (f x : Addr)
  /-- a range object lo, lo + 1, .. below hi -/
  | rng (lo hi : Int)
  /-- a thing that is known to the object (the script; a dict while a loop walks it): read, never written while it is so -/
  | frz (o : Obj) (u : HO)
  /-- a code object's table -/
  | tbl (ps : Array Value)
  /-- any other thing, by what is true of its one object (a def of one's own: SetO a S n := HO.ext fun h => ..) -/
  | ext (φ : Heap → Prop)
abbrev Hp := Addr → Option HO
def upd (H : Hp) (a : Addr) (o : HO) : Hp := fun b => if b = a then some o else H b
theorem upd_same {H : Hp} {a : Addr} {o : HO} : upd H a o a = some o := by unfold upd; rw [if_pos rfl]
theorem upd_ne {H : Hp} {a b : Addr} {o : HO} (h : b ≠ a) : upd H a o b = H b := by unfold upd; rw [if_neg h]
/-- two objects of different content stand apart -/
theorem ne_of {H : Hp} {a b : Addr} {o u : HO} (h : H a = some o) (h' : H b = some u) (d : o ≠ u) : a ≠ b := by
  intro e; subst e; rw [h] at h'; exact d (Option.some.inj h')
theorem ne_of_none {H : Hp} {a b : Addr} {o : HO} (h : H a = some o) (h' : H b = none) : a ≠ b := by
  intro e; subst e; rw [h] at h'; cases h'
section
variable (P : Program) (w : World)
def ObjOk (H : Hp) (h : Heap) (a : Addr) : HO → Prop
  | .lst xs => xs.length ≤ sizeLine ∧ ∃ (its : List Value) (n : Nat), Vals xs its ∧ h.get? a = some { cls := .type "list", data := .seq its.toArray n }
  | .tup xs => xs.length ≤ sizeLine ∧ ∃ its : List Value, Vals xs its ∧ IsTup h a its.toArray
  | .dK kvs => kvs.length ≤ sizeLine ∧ (a == sysModules) = false ∧ ∃ vs, KV kvs vs ∧ h.DictOf (mixKind P w) a vs
  | .dT kvs => kvs.length ≤ sizeLine ∧ (a == sysModules) = false ∧ ∃ xs : List (List Key × Addr × Value),
      Paired (fun (p : List Key × V) (q : List Key × Addr × Value) => p.1 = q.1 ∧ H q.2.1 = some (.tup (p.1.map kV)) ∧ RelV p.2 q.2.2) kvs xs ∧
      ∃ o es ep, h.get? a = some o ∧ o.ExactDict ∧ o.data = .dict es ep ∧ es.toList = xs.map (entryOfKey (tupleKind (mixKind P w))) ∧ (xs.map (·.1)).Nodup
  | .set S n => h.SetOf (intKind P w) a S n
  | .ins C dx fs => H dx = some (.own a) ∧ fs.length ≤ 1000 ∧ dx ≠ a ∧ h.get? a = some (PySem.W.instObj C dx) ∧
      ∃ mA, h.Ns1 dx mA ∧ (∀ f, RelO (fs.lookup f) (mA f)) ∧ PySem.Within mA (fs.map (·.1))
  | .own _ => ∃ o, h.get? a = some o
  | .xd fs => ∃ mA, h.Ns1 a mA ∧ ∀ f, RelO (fs.lookup f) (mA f)
  | .rng lo hi => ∃ t u v, h.get? a = some { cls := .type "range", data := .fields #[.int lo t, .int hi u, .int 1 v] }
  | .frz o u => h.get? a = some o ∧ ObjOk H h a u
  | .tbl ps => h.get? a = some { cls := .none, data := .fields ps }
  | .met f x => h.get? a = some (PySem.W.methodObj (.ref f) (.ref x))
  | .ext φ => φ h ∧ (∃ o, h.get? a = some o) ∧ ∀ h1 h2 : Heap, φ h1 → (∀ o, h1.get? a = some o → h2.get? a = some o) → φ h2
/-- the abstract heap is held -/
def HOk (H : Hp) (h : Heap) : Prop := ∀ a o, H a = some o → ObjOk P w H h a o
end
section
variable {P : Program} {w : World} {H H' : Hp} {h h' : Heap} {a : Addr} {o : HO}
theorem ObjOk.lt (x : ObjOk P w H h a o) : a < h.objs.size := by
  cases o with
  | lst xs => obtain ⟨_, _, _, _, e⟩ := x; exact Heap.lt_size e
  | tup xs => obtain ⟨_, _, _, p⟩ := x; exact p.lt
  | dK kvs => obtain ⟨_, _, _, _, o, _, _, e, _⟩ := x; exact Heap.lt_size e
  | dT kvs => obtain ⟨_, _, _, _, o, _, _, e, _⟩ := x; exact Heap.lt_size e
  | set S n => obtain ⟨o, _, _, _, e, _⟩ := x; exact Heap.lt_size e
  | ins C dx fs => obtain ⟨_, _, _, e, _⟩ := x; exact Heap.lt_size e
  | own y => obtain ⟨_, e⟩ := x; exact Heap.lt_size e
  | xd fs => obtain ⟨_, ⟨_, _, _, e, _⟩, _⟩ := x; exact Heap.lt_size e
  | rng lo hi => obtain ⟨_, _, _, e⟩ := x; exact Heap.lt_size e
  | frz ob u => obtain ⟨e, _⟩ := x; exact Heap.lt_size e
  | tbl ps => exact Heap.lt_size (show h.get? a = some _ from x)
  | met f y => exact Heap.lt_size (show h.get? a = some _ from x)
  | ext φ => obtain ⟨_, ⟨_, e⟩, _⟩ := x; exact Heap.lt_size e
theorem Paired.mapP {α β : Type} {F G : α → β → Prop} : ∀ {l₁ : List α} {l₂ : List β}, Paired F l₁ l₂ → (∀ a b, F a b → G a b) → Paired G l₁ l₂
  | _, _, .nil, _ => .nil
  | _, _, .cons r t, f => .cons (f _ _ r) (Paired.mapP t f)
/-- what an object's description leans on: its own object, its own dict, the tuples -/
theorem ObjOk.stay (x : ObjOk P w H h a o) (k : ∀ b u, (b = a ∨ H b = some (.own a)) → h.get? b = some u → h'.get? b = some u)
    (ho : ∀ b, H b = some (.own a) → H' b = some (.own a)) (ht : ∀ b xs, H b = some (.tup xs) → H' b = some (.tup xs)) : ObjOk P w H' h' a o := by
  induction o with
  | lst xs => obtain ⟨z, its, n, r, e⟩ := x; exact ⟨z, its, n, r, k _ _ (.inl rfl) e⟩
  | tup xs => obtain ⟨z, its, r, ob, e, c⟩ := x; exact ⟨z, its, r, ob, k _ _ (.inl rfl) e, c⟩
  | dK kvs => obtain ⟨z, y, vs, r, ob, es, ep, e, c⟩ := x; exact ⟨z, y, vs, r, ob, es, ep, k _ _ (.inl rfl) e, c⟩
  | dT kvs =>
    obtain ⟨z, y, xs, r, ob, es, ep, e, c⟩ := x
    exact ⟨z, y, xs, Paired.mapP r fun p q z => ⟨z.1, ht _ _ z.2.1, z.2.2⟩, ob, es, ep, k _ _ (.inl rfl) e, c⟩
  | set S n => obtain ⟨ob, es, ep, t, e, c⟩ := x; exact ⟨ob, es, ep, t, k _ _ (.inl rfl) e, c⟩
  | ins C dx fs =>
    obtain ⟨d, z, ne, e, mA, ⟨od, es, ep, e2, c⟩, r⟩ := x
    exact ⟨ho _ d, z, ne, k _ _ (.inl rfl) e, mA, ⟨od, es, ep, k _ _ (.inr d) e2, c⟩, r⟩
  | own y => obtain ⟨ob, e⟩ := x; exact ⟨ob, k _ _ (.inl rfl) e⟩
  | xd fs => obtain ⟨mA, ⟨od, es, ep, e, c⟩, r⟩ := x; exact ⟨mA, ⟨od, es, ep, k _ _ (.inl rfl) e, c⟩, r⟩
  | rng lo hi => obtain ⟨t, u, v, e⟩ := x; exact ⟨t, u, v, k _ _ (.inl rfl) e⟩
  | frz ob u ih => obtain ⟨e, q⟩ := x; exact ⟨k _ _ (.inl rfl) e, ih q⟩
  | tbl ps =>
    have e : h.get? a = some { cls := .none, data := .fields ps } := x
    show h'.get? a = some { cls := .none, data := .fields ps }
    exact k a _ (.inl rfl) e
  | met f y =>
    have e : h.get? a = some (PySem.W.methodObj (.ref f) (.ref y)) := x
    show h'.get? a = some (PySem.W.methodObj (.ref f) (.ref y))
    exact k a _ (.inl rfl) e
  | ext φ => obtain ⟨p, ⟨o, e⟩, st⟩ := x; exact ⟨st _ _ p fun o q => k _ _ (.inl rfl) q, ⟨o, k _ _ (.inl rfl) e⟩, st⟩
theorem HOk.lt (x : HOk P w H h) (e : H a = some o) : a < h.objs.size := (x a o e).lt
theorem HOk.fresh (x : HOk P w H h) (e : h.objs.size ≤ a) : H a = none := by
  cases q : H a with
  | none => rfl
  | some u => exact absurd (Nat.lt_of_lt_of_le (x.lt q) e) (Nat.lt_irrefl _)
/-- every object of the heap is kept -/
theorem HOk.kept (x : HOk P w H h) (k : ∀ b u, h.get? b = some u → h'.get? b = some u) : HOk P w H h' := fun a o e =>
  (x a o e).stay (fun b u _ q => k b u q) (fun _ q => q) fun _ _ q => q
/-- a new object is laid and tracked -/
theorem HOk.laid (x : HOk P w H h) (k : ∀ b u, h.get? b = some u → h'.get? b = some u) (hp : h.objs.size ≤ a) (new : ObjOk P w (upd H a o) h' a o) : HOk P w (upd H a o) h' := fun b u e => by
  have hn := x.fresh hp
  by_cases hb : b = a
  · subst hb; rw [upd_same] at e; cases e; exact new
  · rw [upd_ne hb] at e
    exact (x b u e).stay (fun c v _ q => k c v q) (fun c q => by rw [upd_ne (ne_of_none q hn)]; exact q) fun c xs q => by rw [upd_ne (ne_of_none q hn)]; exact q
end
/-- what may be read as u: it is u, or a known u -/
def Rd (H : Hp) (a : Addr) (u : HO) : Prop := H a = some u ∨ ∃ o, H a = some (.frz o u)
theorem Rd.ok {P : Program} {w : World} {H : Hp} {h : Heap} {a : Addr} {u : HO} (r : Rd H a u) (x : HOk P w H h) : ObjOk P w H h a u := by
  rcases r with r | ⟨o, r⟩
  · exact x a u r
  · obtain ⟨_, q⟩ := x a _ r
    exact q
/-- what may be written -/
def Mut : Option HO → Prop
  | some (.lst _) => True
  | some (.dK _) => True
  | some (.dT _) => True
  | some (.set _ _) => True
  | some (.ins _ _ _) => True
  | some (.ext _) => True
  | _ => False
section
variable {P : Program} {w : World} {H : Hp} {h h' : Heap} {x e : Addr} {o' : HO}
/-- the object at e is changed: x itself, or the dict of the instance x -/
theorem HOk.write (ok : HOk P w H h) (mu : Mut (H x)) (he : e = x ∨ H e = some (.own x)) (k : ∀ b u, b ≠ e → h.get? b = some u → h'.get? b = some u) (heo : ∃ u, h'.get? e = some u)
    (new : ObjOk P w (upd H x o') h' x o') : HOk P w (upd H x o') h' := fun b u q => by
  have nown : ∀ c y, H c = some (.own y) → c ≠ x := fun c y r z => by subst z; rw [r] at mu; exact mu
  have ntup : ∀ c xs, H c = some (.tup xs) → c ≠ x := fun c xs r z => by subst z; rw [r] at mu; exact mu
  by_cases hb : b = x
  · subst hb; rw [upd_same] at q; cases q; exact new
  · rw [upd_ne hb] at q
    by_cases hbe : b = e
    · have q' : H b = some (.own x) := by
        rcases he with z | z
        · exact absurd (hbe.trans z) hb
        · rw [hbe]; exact z
      rw [q] at q'; cases q'
      obtain ⟨v, hv⟩ := heo
      exact ⟨v, by rw [hbe]; exact hv⟩
    · refine (ok b u q).stay (fun c v hc r => k c v ?_ r) (fun c r => by rw [upd_ne (nown c b r)]; exact r) fun c xs r => by rw [upd_ne (ntup c xs r)]; exact r
      rcases hc with rfl | hc
      · exact hbe
      · rintro rfl
        rcases he with z | z
        · exact nown c b hc z
        · rw [hc] at z; cases z; exact hb rfl
end
/-! ### kept unless tracked; of the frames at fs (the callers') the slots may change (an exception that passes writes there); of the records at ex (iterators) nothing is said -/
structure Un (fs ex : List Addr) (H H' : Hp) (h h' : Heap) : Prop where
  keep : ∀ b o, h.get? b = some o → H b = none → b ∉ fs → b ∉ ex → h'.get? b = some o
  slot : ∀ b o, h.get? b = some o → H b = none → b ∈ fs → b ∉ ex → ∃ sl, h'.get? b = some { o with slots := sl }
  free : ∀ b o, h.get? b = some o → H b = none → b ∉ ex → H' b = none
  there : ∀ b o, h.get? b = some o → b ∉ ex → ∃ o', h'.get? b = some o'
  tups : ∀ b xs, H b = some (.tup xs) → H' b = some (.tup xs)
  frzs : ∀ b o u, H b = some (.frz o u) → H' b = some (.frz o u)
  tbls : ∀ b ps, H b = some (.tbl ps) → ∃ more, H' b = some (.tbl (ps ++ more))
section
variable {fs fs' ex ex' : List Addr} {H H1 H2 : Hp} {h h1 h2 h' : Heap} {a x e : Addr} {o : HO}
theorem Un.any (u : Un fs ex H H1 h h1) {b : Addr} {ob : Obj} (q : h.get? b = some ob) (n : H b = none) (hx : b ∉ ex) : ∃ sl, h1.get? b = some { ob with slots := sl } := by
  by_cases hb : b ∈ fs
  · exact u.slot b ob q n hb hx
  · exact ⟨ob.slots, u.keep b ob q n hb hx⟩
theorem Un.kept (k : ∀ b u, h.get? b = some u → h'.get? b = some u) : Un fs ex H H h h' :=
  ⟨fun b ob q _ _ _ => k b ob q, fun b ob q _ _ _ => ⟨ob.slots, k b ob q⟩, fun _ _ _ n _ => n, fun b ob q _ => ⟨ob, k b ob q⟩, fun _ _ q => q, fun _ _ _ q => q, fun _ ps q => ⟨#[], by rw [q]; simp⟩⟩
theorem Un.refl : Un fs ex H H h h := Un.kept fun _ _ q => q
theorem Un.laid (k : ∀ b u, h.get? b = some u → h'.get? b = some u) (hp : h.objs.size ≤ a) (hn : H a = none) : Un fs ex H (upd H a o) h h' where
  keep := fun b u q _ _ _ => k b u q
  slot := fun b u q _ _ _ => ⟨u.slots, k b u q⟩
  free := fun b u q n _ => by rw [upd_ne (Nat.ne_of_lt (Nat.lt_of_lt_of_le (Heap.lt_size q) hp))]; exact n
  there := fun b u q _ => ⟨u, k b u q⟩
  tups := fun b xs q => by rw [upd_ne (ne_of_none q hn)]; exact q
  frzs := fun b u xs q => by rw [upd_ne (ne_of_none q hn)]; exact q
  tbls := fun b ps q => ⟨#[], by rw [upd_ne (ne_of_none q hn), q]; simp⟩
theorem Un.write (mu : Mut (H x)) (he : e = x ∨ H e = some (.own x)) (k : ∀ b u, b ≠ e → h.get? b = some u → h'.get? b = some u) (heo : ∃ u, h'.get? e = some u) : Un fs ex H (upd H x o) h h' := by
  have hx : ∀ b, H b = none → b ≠ x := fun b n z => by subst z; rw [n] at mu; exact mu
  have hb : ∀ b, H b = none → b ≠ e := fun b n z => by
    subst z
    rcases he with r | r
    · exact hx b n r
    · rw [n] at r; cases r
  have hm : ∀ b u, H b = some u → ¬ Mut (some u) → b ≠ x := fun b u q nm z => by subst z; rw [q] at mu; exact nm mu
  refine ⟨fun b u q n _ _ => k b u (hb b n) q, fun b u q n _ _ => ⟨u.slots, k b u (hb b n) q⟩, fun b u q n _ => by rw [upd_ne (hx b n)]; exact n, fun b u q _ => ?_,
    fun b xs q => by rw [upd_ne (hm b _ q fun z => z)]; exact q, fun b u xs q => by rw [upd_ne (hm b _ q fun z => z)]; exact q, fun b ps q => ⟨#[], by rw [upd_ne (hm b _ q fun z => z), q]; simp⟩⟩
  by_cases hbe : b = e
  · subst hbe; exact heo
  · exact ⟨u, k b u hbe q⟩
end
/-! ### the heap without what is tracked -/
def trk (h : Heap) (H : Hp) : List Addr := (List.range h.objs.size).filter fun a => (H a).isSome
def hidT (h : Heap) (H : Hp) : Heap := PySem.W.hideAll h (trk h H)
theorem hidT_size (h : Heap) (H : Hp) : (hidT h H).objs.size = h.objs.size := PySem.W.hideAll_size _ _
theorem hidT_get {h : Heap} {H : Hp} {b : Addr} {o : Obj} (e : h.get? b = some o) (n : H b = none) : (hidT h H).get? b = some o :=
  PySem.W.hideAll_get _ e fun hm => by
    have q : (H b).isSome = true := (List.mem_filter.mp hm).2
    rw [n] at q; simp at q
theorem of_hidT {h : Heap} {H : Hp} {b : Addr} {o : Obj} (e : (hidT h H).get? b = some o) : h.get? b = some o ∧ H b = none := by
  have e' : h.get? b = some o := PySem.W.of_hideAll (trk h H) e
  refine ⟨e', ?_⟩
  cases q : H b with
  | none => rfl
  | some x =>
    have hm : b ∈ trk h H := List.mem_filter.mpr ⟨List.mem_range.mpr (Heap.lt_size e'), by simp [q]⟩
    have z : (hidT h H).get? b = none := PySem.W.hideAll_none (trk h H) hm
    rw [z] at e; cases e
/-! ### OpenK's ledger, filled with every new object but one -/
end L2
namespace L2
open PySem PySem.Spec PyProof.Rows
/-- the module's facts, over the base: the heap at the law's entry without what is tracked there -/
structure Mod (K : PySem.W.Frag) (mg : Str → Option Value) (base : Heap) : Prop where
  kin : K.In base
  glob : base.Ns mainGlobals mg
  blt : ∃ mb, base.Ns builtinsNs mb ∧ ∀ x : Str, x ≠ "__name__" → mb x = bootBuiltins x
  nolimit : base.NoLimit
/-- the context: a def's body (or a comprehension's block) running. base: fixed through the whole law; s₀, H₀: the entry; outer: the frames whose slots others may change (a def's callers); stack: all frames that run;
   ex: iterators that were made ahead of the entry and are walked here (a comprehension's); fn: the names whose cells were made at the entry (a def: all; a comprehension's block: its own); calm: not within an except suite; pn: pins that every state bears; xe: what is wanted of an exception that leaves the code -/
structure Cx where
  prog : Program
  w : World
  K : PySem.W.Frag
  mg : Str → Option Value
  base : Heap
  A : Around
  N : List Str
  s_0 : Shared
  H_0 : Hp
  env : Env
  outer : List Env
  stack : List Env
  ex : List Addr
  fn : Str → Bool
  calm : Bool
  pn : List (Addr × Obj)
  xe : Value → Shared → Prop
/-- the callers' frames -/
def frs (l : List Env) : List Addr := l.filterMap (·.frame)
abbrev Cx.fs (X : Cx) : List Addr := frs X.outer
def Vis (sc : Scope) (x : Str) : Prop := sc.names.lookup x = some .local ∨ sc.names.lookup x = some .cell ∨ sc.names.lookup x = some .free
def Loc (sc : Scope) (x : Str) : Prop := sc.names.lookup x = some .local ∨ sc.names.lookup x = some .cell
def Look (env : Env) (h : Heap) (m : Str → Option Value) (x : Str) (u : Value) : Prop :=
  (env.kindOf x = some .local ∧ m x = some u) ∨ ((env.kindOf x = some .cell ∨ env.kindOf x = some .free) ∧ ∃ c, env.cells.lookup x = some c ∧ h.IsCell c (some u))
structure Cx.Ok (X : Cx) : Prop where
  mod : Mod X.K X.mg X.base
  kind : X.env.scope.kind = .function
  glob : X.env.globals = mainGlobals
  blt : X.env.builtins = builtinsNs
  above : X.s_0.heap.objs.size ≤ X.env.locals
  inj : ∀ x y c, X.env.cells.lookup x = some c → X.env.cells.lookup y = some c → x = y
  has : ∀ x, (X.env.kindOf x = some .cell ∨ X.env.kindOf x = some .free) → ∃ c, X.env.cells.lookup x = some c
  cab : ∀ x c, X.fn x = true → X.env.cells.lookup x = some c → X.s_0.heap.objs.size ≤ c
  hd : X.calm = true → X.A.handled = none
  frames : X.A.frames = some X.stack
  stk : X.stack = X.outer ∨ (X.stack = X.env :: X.outer ∧ X.env.frame = some X.env.locals)
  exf : ∀ b ∈ X.ex, b ≠ X.env.locals ∧ ∀ x c, X.env.cells.lookup x = some c → c ≠ b
  bs : ∀ b o, X.base.get? b = some o → X.s_0.heap.get? b = some o ∧ X.H_0 b = none
  bsz : X.base.objs.size ≤ X.s_0.heap.objs.size
  noex : ∀ b o, X.base.get? b = some o → b ∉ X.ex
  exfs : ∀ b ∈ X.ex, b ∉ X.fs
  funs : X.s_0.heap.FunFrames X.base X.outer
  frf : ∀ b ∈ X.fs, X.H_0 b = none
structure Inv (X : Cx) (pins : List (Addr × Obj)) (σ : List (Option V)) (H : Hp) (s : Shared) : Prop where
  ok : X.Ok
  os : s.os = X.s_0.os
  bare : AllBare s.gens
  base : Un X.fs X.ex X.H_0 H X.s_0.heap s.heap
  loc : ∃ m, s.heap.Ns X.env.locals m ∧ ∀ (i : Nat) (x : Str) (v : V), X.N[i]? = some x → σ[i]? = some (some v) → Vis X.env.scope x → ∃ u, RelV v u ∧ Look X.env s.heap m x u
  cell : ∀ x c, X.env.cells.lookup x = some c → ∃ v, s.heap.IsCell c v
  free : H X.env.locals = none
  freeC : ∀ x c, X.env.cells.lookup x = some c → H c = none
  pin : ∀ p ∈ X.pn ++ pins, s.heap.get? p.1 = some p.2 ∧ H p.1 = none ∧ p.1 ≠ X.env.locals ∧ p.1 ∉ X.fs ∧ ∀ v, p.2.data ≠ .cell v
  hok : HOk X.prog X.w H s.heap
  len : σ.length = X.N.length
section
variable {X : Cx} {pins : List (Addr × Obj)} {σ : List (Option V)} {H H' : Hp} {s : Shared} {h' : Heap}
theorem Cx.Ok.nofr (ok : X.Ok) {b : Addr} {o : Obj} (e : X.base.get? b = some o) : b ∉ X.fs := fun hb => by
  have := (ok.funs.mem hb).1
  rw [e] at this; cases this
theorem Inv.bs (I : Inv X pins σ H s) : ∀ b o, X.base.get? b = some o → s.heap.get? b = some o ∧ H b = none := fun b o e =>
  ⟨I.base.keep b o (I.ok.bs b o e).1 (I.ok.bs b o e).2 (I.ok.nofr e) (I.ok.noex b o e), I.base.free b o (I.ok.bs b o e).1 (I.ok.bs b o e).2 (I.ok.noex b o e)⟩
theorem Inv.bk (I : Inv X pins σ H s) : ∀ b o, X.base.get? b = some o → s.heap.get? b = some o := fun b o e => (I.bs b o e).1
theorem Inv.mod (I : Inv X pins σ H s) : Mod X.K X.mg X.base := I.ok.mod
theorem Inv.kIn (I : Inv X pins σ H s) : X.K.In s.heap := I.ok.mod.kin.keeps I.bk
theorem Inv.lt (I : Inv X pins σ H s) : X.env.locals < s.heap.objs.size := let ⟨_, hn, _⟩ := I.loc; hn.lt
theorem Inv.sz (I : Inv X pins σ H s) : X.s_0.heap.objs.size ≤ s.heap.objs.size := Nat.le_trans I.ok.above (Nat.le_of_lt I.lt)
theorem Inv.nofs (I : Inv X pins σ H s) {a : Addr} (h : s.heap.objs.size ≤ a) : a ∉ X.fs := fun hb => by
  obtain ⟨_, o, ho, _⟩ := I.ok.funs.mem hb
  exact absurd (Nat.lt_of_lt_of_le (Heap.lt_size ho) (Nat.le_trans I.sz h)) (Nat.lt_irrefl _)
theorem Inv.cne (I : Inv X pins σ H s) : ∀ x c, X.env.cells.lookup x = some c → c ≠ X.env.locals := fun x c e z => by
  obtain ⟨v, o, ho, hd⟩ := I.cell x c e
  obtain ⟨m, ⟨o', es, ep, ho', hd', _⟩, _⟩ := I.loc
  rw [z, ho'] at ho; cases ho; rw [hd'] at hd; cases hd
theorem Inv.funs (I : Inv X pins σ H s) : s.heap.FunFrames X.base X.outer := by
  have all : ∀ (l : List Env), (∀ b ∈ frs l, b ∈ X.fs) → X.s_0.heap.FunFrames X.base l → s.heap.FunFrames X.base l := by
    intro l
    induction l with
    | nil => intro _ _; trivial
    | cons env r ih =>
      intro hs hl
      obtain ⟨hk, ⟨L, o, hf, hn, ho, hd⟩, hr⟩ := hl
      have hL : L ∈ X.fs := hs L (by unfold frs; rw [List.filterMap_cons, hf]; exact List.mem_cons_self)
      obtain ⟨sl, e⟩ := I.base.slot L o ho (I.ok.frf L hL) hL fun z => I.ok.exfs L z hL
      exact ⟨hk, ⟨L, _, hf, hn, e, hd⟩, ih (fun b hb => hs b (by unfold frs; rw [List.filterMap_cons, hf]; exact List.mem_cons_of_mem _ hb)) hr⟩
  exact all X.outer (fun _ hb => hb) I.ok.funs
/-- the frames that run, for a call -/
theorem Inv.stack (I : Inv X pins σ H s) : s.heap.FunFrames X.base X.stack := by
  rcases I.ok.stk with e | ⟨e, hf⟩
  · rw [e]; exact I.funs
  · rw [e]
    obtain ⟨m, hn, _⟩ := I.loc
    refine .cons (by rw [I.ok.kind]; decide) hf hn ?_ I.funs
    exact Heap.get?_none_of_le (Nat.le_trans I.ok.bsz I.ok.above)
theorem Inv.stkSub (I : Inv X pins σ H s) : ∀ b ∈ frs X.stack, b ∈ X.env.locals :: X.fs := fun b hb => by
  rcases I.ok.stk with e | ⟨e, hf⟩
  · rw [e] at hb; exact List.mem_cons_of_mem _ hb
  · rw [e] at hb
    unfold frs at hb
    rw [List.filterMap_cons, hf] at hb
    exact hb
theorem Inv.stkFree (I : Inv X pins σ H s) : ∀ b ∈ frs X.stack, H b = none := fun b hb => by
  rcases List.mem_cons.mp (I.stkSub b hb) with e | hb
  · rw [e]; exact I.free
  · obtain ⟨_, o, ho, _⟩ := I.ok.funs.mem hb
    exact I.base.free b o ho (I.ok.frf b hb) fun z => I.ok.exfs b z hb
/-- THE STEP: the untracked objects but the frame and the records at ch are kept (the callers' frames up to slots), the frame's map is kept, the new abstract heap is held -/
theorem Inv.step {g' : Array GenState} {t' : Nat} {d' : Drawn} {ch : List Addr} (I : Inv X pins σ H s)
    (hch : ∀ b ∈ ch, (b ∈ X.ex ∨ X.s_0.heap.objs.size ≤ b) ∧ b ≠ X.env.locals ∧ (∀ x c, X.env.cells.lookup x = some c → c ≠ b) ∧ ∀ p ∈ X.pn ++ pins, p.1 ≠ b)
    (keep : ∀ b o, b ≠ X.env.locals → b ∉ X.fs → b ∉ ch → s.heap.get? b = some o → H b = none → h'.get? b = some o)
    (slot : ∀ b o, b ≠ X.env.locals → b ∈ X.fs → b ∉ ch → s.heap.get? b = some o → H b = none → ∃ sl, h'.get? b = some { o with slots := sl }) (free : ∀ b o, b ∉ ch → s.heap.get? b = some o → H b = none → H' b = none)
    (there : ∀ b o, b ∉ ch → s.heap.get? b = some o → ∃ o', h'.get? b = some o')
    (tups : ∀ b xs, H b = some (.tup xs) → H' b = some (.tup xs)) (frzs : ∀ b o u, H b = some (.frz o u) → H' b = some (.frz o u)) (tbls : ∀ b ps, H b = some (.tbl ps) → ∃ more, H' b = some (.tbl (ps ++ more)))
    (ns : ∀ m, s.heap.Ns X.env.locals m → h'.Ns X.env.locals m) (hok : HOk X.prog X.w H' h') (hg : AllBare g') :
    Inv X pins σ H' { s with heap := h', gens := g', drawn := d', toks := t' } := by
  have neL : ∀ b o, X.s_0.heap.get? b = some o → b ≠ X.env.locals := fun b o e => Nat.ne_of_lt (Nat.lt_of_lt_of_le (Heap.lt_size e) I.ok.above)
  have neC : ∀ b o, X.s_0.heap.get? b = some o → b ∉ X.ex → b ∉ ch := fun b o e hx hb => by
    rcases (hch b hb).1 with z | z
    · exact hx z
    · exact absurd (Nat.lt_of_lt_of_le (Heap.lt_size e) z) (Nat.lt_irrefl _)
  have cellK : ∀ x c, X.env.cells.lookup x = some c → ∀ v, s.heap.IsCell c v → h'.IsCell c v := fun x c e v ⟨o, ho, hd⟩ => by
    have nch : c ∉ ch := fun z => (hch c z).2.2.1 x c e rfl
    by_cases hc : c ∈ X.fs
    · obtain ⟨sl, q⟩ := slot c o (I.cne x c e) hc nch ho (I.freeC x c e)
      exact ⟨_, q, hd⟩
    · exact ⟨o, keep c o (I.cne x c e) hc nch ho (I.freeC x c e), hd⟩
  refine ⟨I.ok, I.os, hg, ⟨fun b o e n hb hx => ?_, fun b o e n hb hx => ?_, fun b o e n hx => ?_, fun b o e hx => ?_, fun b xs e => tups b xs (I.base.tups b xs e), fun b o xs e => frzs b o xs (I.base.frzs b o xs e), fun b ps e => ?_⟩, ?_, fun x c e => ?_, ?_, fun x c e => ?_, fun p hp => ?_, hok, I.len⟩
  · exact keep b o (neL b o e) hb (neC b o e hx) (I.base.keep b o e n hb hx) (I.base.free b o e n hx)
  · obtain ⟨sl, e1⟩ := I.base.slot b o e n hb hx
    obtain ⟨sl', e2⟩ := slot b _ (neL b o e) hb (neC b o e hx) e1 (I.base.free b o e n hx)
    exact ⟨sl', e2⟩
  · obtain ⟨o', e1⟩ := I.base.there b o e hx
    exact free b o' (neC b o e hx) e1 (I.base.free b o e n hx)
  · obtain ⟨o', e1⟩ := I.base.there b o e hx
    exact there b o' (neC b o e hx) e1
  · obtain ⟨m1, e1⟩ := I.base.tbls b ps e
    obtain ⟨m2, e2⟩ := tbls b _ e1
    exact ⟨m1 ++ m2, by rw [e2, Array.append_assoc]⟩
  · obtain ⟨m, hn, hl⟩ := I.loc
    refine ⟨m, ns m hn, fun i x v e1 e2 e3 => ?_⟩
    obtain ⟨u, r, l⟩ := hl i x v e1 e2 e3
    refine ⟨u, r, ?_⟩
    rcases l with l | ⟨k, c, e, z⟩
    · exact .inl l
    · exact .inr ⟨k, c, e, cellK x c e _ z⟩
  · obtain ⟨v, z⟩ := I.cell x c e
    exact ⟨v, cellK x c e v z⟩
  · obtain ⟨m, ⟨o, _, _, ho, _⟩, _⟩ := I.loc
    exact free _ o (fun z => (hch _ z).2.1 rfl) ho I.free
  · obtain ⟨v, o, ho, hd⟩ := I.cell x c e
    exact free c o (fun z => (hch c z).2.2.1 x c e rfl) ho (I.freeC x c e)
  · obtain ⟨e, n, ne, nf, d⟩ := I.pin p hp
    have nch : p.1 ∉ ch := fun z => (hch p.1 z).2.2.2 p hp rfl
    exact ⟨keep p.1 p.2 ne nf nch e n, free p.1 p.2 nch e n, ne, nf, d⟩
/-- .. where the frame's own object is kept too -/
theorem Inv.un {t' : Nat} (I : Inv X pins σ H s) (u : Un X.fs [] H H' s.heap h') (hok : HOk X.prog X.w H' h') : Inv X pins σ H' { s with heap := h', toks := t' } := by
  obtain ⟨m, ⟨o, es, ep, ho, r⟩, _⟩ := id I.loc
  obtain ⟨sl, hL⟩ := u.any ho I.free (by simp)
  exact I.step (g' := s.gens) (d' := s.drawn) (ch := []) (fun _ z => nomatch z) (fun b o _ hb _ e n => u.keep b o e n hb (by simp)) (fun b o _ hb _ e n => u.slot b o e n hb (by simp)) (fun b o _ e n => u.free b o e n (by simp)) (fun b o _ e => u.there b o e (by simp)) u.tups u.frzs u.tbls (fun m' hm => by
    obtain ⟨o', es', ep', ho', r'⟩ := hm
    rw [ho] at ho'; cases ho'
    exact ⟨_, es', ep', hL, r'⟩) hok I.bare
/-- behind a call (or a comprehension's block): the slots of this frame may have changed too, the records at ch may have turned -/
theorem Inv.call {g' : Array GenState} {t' : Nat} {d' : Drawn} {ch : List Addr} (I : Inv X pins σ H s) (u : Un (frs X.stack) ch H H' s.heap h') (hok : HOk X.prog X.w H' h') (hg : AllBare g')
    (hch : ∀ b ∈ ch, (b ∈ X.ex ∨ X.s_0.heap.objs.size ≤ b) ∧ b ≠ X.env.locals ∧ (∀ x c, X.env.cells.lookup x = some c → c ≠ b) ∧ ∀ p ∈ X.pn ++ pins, p.1 ≠ b) :
    Inv X pins σ H' { s with heap := h', gens := g', drawn := d', toks := t' } := by
  obtain ⟨m, ⟨o, es, ep, ho, r⟩, _⟩ := id I.loc
  obtain ⟨sl, hL⟩ := u.any ho I.free fun z => (hch _ z).2.1 rfl
  exact I.step (ch := ch) hch (fun b o hL hb hc e n => u.keep b o e n (fun z => (List.mem_cons.mp (I.stkSub b z)).elim hL hb) hc) (fun b o _ _ hc e n => u.any e n hc) (fun b o hc e n => u.free b o e n hc) (fun b o hc e => u.there b o e hc) u.tups u.frzs u.tbls (fun m' hm => by
    obtain ⟨o', es', ep', ho', r'⟩ := hm
    rw [ho] at ho'; cases ho'
    exact ⟨_, es', ep', hL, r'⟩) hok hg
/-- an untracked record of ours (an iterator) has turned -/
theorem Inv.turned {t' : Nat} {it : Addr} (I : Inv X pins σ H s) (k : ∀ b o, b ≠ it → s.heap.get? b = some o → h'.get? b = some o) (hn : H it = none) (hL : it ≠ X.env.locals)
    (h1 : it ∈ X.ex ∨ X.s_0.heap.objs.size ≤ it) (h2 : ∀ x c, X.env.cells.lookup x = some c → c ≠ it) (h3 : ∀ p ∈ X.pn ++ pins, p.1 ≠ it) : Inv X pins σ H { s with heap := h', toks := t' } := by
  have nit : ∀ b u, H b = some u → b ≠ it := fun b u e z => by rw [z, hn] at e; cases e
  refine I.step (g' := s.gens) (d' := s.drawn) (ch := [it]) (fun b hb => ?_) (fun b o _ _ hc e _ => k b o (fun z => hc (by simp [z])) e) (fun b o _ _ hc e _ => ⟨o.slots, k b o (fun z => hc (by simp [z])) e⟩) (fun _ _ _ _ n => n)
    (fun b o hc e => ⟨o, k b o (fun z => hc (by simp [z])) e⟩) (fun _ _ e => e) (fun _ _ _ e => e) (fun b ps e => ⟨#[], by rw [e]; simp⟩) (fun m hm => ?_) (fun b u e => ?_) I.bare
  · have e : b = it := by simpa using hb
    subst e
    exact ⟨h1, hL, h2, h3⟩
  · obtain ⟨o, es, ep, ho, r⟩ := hm
    exact ⟨o, es, ep, k _ o (Ne.symm hL) ho, r⟩
  · refine (I.hok b u e).stay (fun c v hc q => k c v ?_ q) (fun _ q => q) fun _ _ q => q
    rcases hc with z | z
    · rw [z]; exact nit b u e
    · exact nit c _ z
theorem Inv.tok (I : Inv X pins σ H s) (t : Nat) : Inv X pins σ H { s with toks := t } := I.un (h' := s.heap) (t' := t) Un.refl I.hok
/-- all objects kept -/
theorem Inv.kept {t' : Nat} (I : Inv X pins σ H s) (k : ∀ b u, s.heap.get? b = some u → h'.get? b = some u) : Inv X pins σ H { s with heap := h', toks := t' } := I.un (Un.kept k) (I.hok.kept k)
/-- a new object laid and tracked -/
theorem Inv.laid {a : Addr} {o : HO} {t' : Nat} (I : Inv X pins σ H s) (k : ∀ b u, s.heap.get? b = some u → h'.get? b = some u) (hp : s.heap.objs.size ≤ a) (new : ObjOk X.prog X.w (upd H a o) h' a o) :
    Inv X pins σ (upd H a o) { s with heap := h', toks := t' } := I.un (Un.laid k hp (I.hok.fresh hp)) (I.hok.laid k hp new)
/-- an object written -/
theorem Inv.write {x e : Addr} {o : HO} {t' : Nat} (I : Inv X pins σ H s) (mu : Mut (H x)) (he : e = x ∨ H e = some (.own x)) (k : ∀ b u, b ≠ e → s.heap.get? b = some u → h'.get? b = some u) (heo : ∃ u, h'.get? e = some u)
    (new : ObjOk X.prog X.w (upd H x o) h' x o) : Inv X pins σ (upd H x o) { s with heap := h', toks := t' } := I.un (Un.write mu he k heo) (I.hok.write mu he k heo new)
/-- forgetting slots, pins -/
theorem Inv.weak {σ' : List (Option V)} (I : Inv X pins σ H s) (hl : σ'.length = σ.length) (w : ∀ (i : Nat) v, σ'[i]? = some (some v) → σ[i]? = some (some v)) : Inv X pins σ' H s :=
  ⟨I.ok, I.os, I.bare, I.base, let ⟨m, hn, hl'⟩ := I.loc; ⟨m, hn, fun i x v e1 e2 e3 => hl' i x v e1 (w i v e2) e3⟩, I.cell, I.free, I.freeC, I.pin, I.hok, hl.trans I.len⟩
theorem Inv.pins_of {pins' : List (Addr × Obj)} (I : Inv X pins σ H s) (h : ∀ p ∈ pins', s.heap.get? p.1 = some p.2 ∧ H p.1 = none ∧ p.1 ≠ X.env.locals ∧ p.1 ∉ X.fs ∧ ∀ v, p.2.data ≠ .cell v) : Inv X pins' σ H s :=
  ⟨I.ok, I.os, I.bare, I.base, I.loc, I.cell, I.free, I.freeC, fun p hp => (List.mem_append.mp hp).elim (fun z => I.pin p (List.mem_append_left _ z)) (h p), I.hok, I.len⟩
theorem nodup_ix {N : List Str} (hN : N.Nodup) {i j : Nat} {x : Str} (a : N[i]? = some x) (b : N[j]? = some x) : i = j := by
  obtain ⟨h1, e1⟩ := List.getElem?_eq_some_iff.mp a
  obtain ⟨h2, e2⟩ := List.getElem?_eq_some_iff.mp b
  exact (List.getElem_inj hN).mp (e1.trans e2.symm)
/-- a name is stored; what changed -/
theorem store_ok2 {M : Model} {A : Around} {E : Value → Shared → Prop} {i : Nat} {x : Str} {v : V} {u : Value} {Q : Unit → Shared → Prop} (I : Inv X pins σ H s) (hN : X.N.Nodup) (hi : X.N[i]? = some x) (hx : Loc X.env.scope x) (r : RelV v u)
    (h : ∀ s', Inv X pins (σ.set i (some v)) H s' → (∃ a, Heap.SameBut a s.heap s'.heap ∧ (a = X.env.locals ∨ X.env.cells.lookup x = some a)) → Q () s') (hf : X.fn x = true ∨ X.env.scope.names.lookup x = some .local := by first | exact .inl rfl | exact .inr rfl | assumption) : wpAny M A (storeName X.env x u) Q E s := by
  obtain ⟨m, hn, hl⟩ := id I.loc
  have hcls : (X.env.scope.kind == .class || (X.env.scope.kind == .module && X.env.locals != X.env.globals)) = false := by rw [I.ok.kind]; rfl
  have hiσ : i < σ.length := by rw [I.len]; exact (List.getElem?_eq_some_iff.mp hi).1
  have cne := I.cne
  have tracked : ∀ {a : Addr} {h' : Heap}, (∃ o, s.heap.get? a = some o ∧ H a = none) → Heap.SameBut a s.heap h' → HOk X.prog X.w H h' := fun {a h'} ha hs b ob e => by
    obtain ⟨_, _, hfree⟩ := ha
    refine (I.hok b ob e).stay (fun c w' hc q => (hs.2 c ?_).trans q) (fun _ q => q) fun _ _ q => q
    rintro rfl
    rcases hc with rfl | hc
    · rw [hfree] at e; cases e
    · rw [hfree] at hc; cases hc
  rcases hx with hk | hk
  · refine wpAny_storeName_local hk hn (fun h' hn' hs => ?_) hcls
    obtain ⟨oL, _, _, hoL, _⟩ := id hn
    refine h _ ⟨I.ok, I.os, I.bare, ⟨fun b o e n hb hx => ?_, fun b o e n hb hx => ?_, I.base.free, fun b o e hx => ?_, I.base.tups, I.base.frzs, I.base.tbls⟩, ⟨_, hn', fun j y v' e1 e2 e3 => ?_⟩, fun y c e => ?_, I.free, I.freeC, fun p hp => ?_, tracked ⟨oL, hoL, I.free⟩ hs, by simpa using I.len⟩ ⟨_, hs, .inl rfl⟩
    · exact (hs.2 b (Nat.ne_of_lt (Nat.lt_of_lt_of_le (Heap.lt_size e) I.ok.above))).trans (I.base.keep b o e n hb hx)
    · obtain ⟨sl, e1⟩ := I.base.slot b o e n hb hx
      exact ⟨sl, (hs.2 b (Nat.ne_of_lt (Nat.lt_of_lt_of_le (Heap.lt_size e) I.ok.above))).trans e1⟩
    · obtain ⟨o', e1⟩ := I.base.there b o e hx
      exact ⟨o', (hs.2 b (Nat.ne_of_lt (Nat.lt_of_lt_of_le (Heap.lt_size e) I.ok.above))).trans e1⟩
    · by_cases hj : j = i
      · subst hj
        rw [hi] at e1; cases e1
        rw [List.getElem?_set_self hiσ] at e2
        cases e2
        exact ⟨u, r, .inl ⟨hk, by simp⟩⟩
      · rw [List.getElem?_set_ne (Ne.symm hj)] at e2
        obtain ⟨u', r', q⟩ := hl j y v' e1 e2 e3
        refine ⟨u', r', ?_⟩
        rcases q with ⟨k, e⟩ | ⟨k, c, e, z⟩
        · refine .inl ⟨k, ?_⟩
          have : y ≠ x := fun e => hj (nodup_ix hN e1 (e ▸ hi))
          simp [this, e]
        · exact .inr ⟨k, c, e, z.sameBut hs (cne y c e)⟩
    · obtain ⟨w', z⟩ := I.cell y c e
      exact ⟨w', z.sameBut hs (cne y c e)⟩
    · obtain ⟨e, n, ne, nf, d⟩ := I.pin p hp
      exact ⟨(hs.2 p.1 ne).trans e, n, ne, nf, d⟩
  · have hfn : X.fn x = true := by
      rcases hf with z | z
      · exact z
      · rw [z] at hk; cases hk
    obtain ⟨c, hc⟩ := I.ok.has x (.inl hk)
    obtain ⟨w', z⟩ := I.cell x c hc
    refine wpAny_storeName_cell I.ok.kind hk hc z (fun h' hc' hs => ?_)
    obtain ⟨oc, hoc, hocd⟩ := id z
    refine h { s with heap := h' } ⟨I.ok, I.os, I.bare, ⟨fun b o e n hb hx => ?_, fun b o e n hb hx => ?_, I.base.free, fun b o e hx => ?_, I.base.tups, I.base.frzs, I.base.tbls⟩, ⟨m, hn.sameBut hs (Ne.symm (cne x c hc)), fun j y v' e1 e2 e3 => ?_⟩, fun y c' e => ?_, I.free, I.freeC, fun p hp => ?_, tracked ⟨oc, hoc, I.freeC x c hc⟩ hs, by simpa using I.len⟩ ⟨c, hs, .inr hc⟩
    · exact (hs.2 b (Nat.ne_of_lt (Nat.lt_of_lt_of_le (Heap.lt_size e) (I.ok.cab x c hfn hc)))).trans (I.base.keep b o e n hb hx)
    · obtain ⟨sl, e1⟩ := I.base.slot b o e n hb hx
      exact ⟨sl, (hs.2 b (Nat.ne_of_lt (Nat.lt_of_lt_of_le (Heap.lt_size e) (I.ok.cab x c hfn hc)))).trans e1⟩
    · obtain ⟨o', e1⟩ := I.base.there b o e hx
      exact ⟨o', (hs.2 b (Nat.ne_of_lt (Nat.lt_of_lt_of_le (Heap.lt_size e) (I.ok.cab x c hfn hc)))).trans e1⟩
    · by_cases hj : j = i
      · subst hj
        rw [hi] at e1; cases e1
        rw [List.getElem?_set_self hiσ] at e2
        cases e2
        exact ⟨u, r, .inr ⟨.inl hk, c, hc, hc'⟩⟩
      · rw [List.getElem?_set_ne (Ne.symm hj)] at e2
        obtain ⟨u', r', q⟩ := hl j y v' e1 e2 e3
        refine ⟨u', r', ?_⟩
        rcases q with q | ⟨k, c', e, z'⟩
        · exact .inl q
        · refine .inr ⟨k, c', e, z'.sameBut hs ?_⟩
          rintro rfl
          exact hj (nodup_ix hN e1 (I.ok.inj _ _ _ e hc ▸ hi))
    · by_cases hcc : c' = c
      · subst hcc; exact ⟨_, hc'⟩
      · obtain ⟨w2, z2⟩ := I.cell y c' e
        exact ⟨w2, z2.sameBut hs hcc⟩
    · obtain ⟨e, n, ne, nf, d⟩ := I.pin p hp
      refine ⟨(hs.2 p.1 ?_).trans e, n, ne, nf, d⟩
      intro q
      rw [q, hoc] at e
      have q' : oc = p.2 := Option.some.inj e
      exact d w' (by rw [← q']; exact hocd)
theorem store_ok {M : Model} {A : Around} {E : Value → Shared → Prop} {i : Nat} {x : Str} {v : V} {u : Value} {Q : Unit → Shared → Prop} (I : Inv X pins σ H s) (hN : X.N.Nodup) (hi : X.N[i]? = some x) (hx : Loc X.env.scope x) (r : RelV v u)
    (h : ∀ s', Inv X pins (σ.set i (some v)) H s' → Q () s') (hf : X.fn x = true ∨ X.env.scope.names.lookup x = some .local := by first | exact .inl rfl | exact .inr rfl | assumption) : wpAny M A (storeName X.env x u) Q E s :=
  store_ok2 I hN hi hx r (fun s' I' _ => h s' I') hf
/-- behind a call or a block, the state as it is -/
theorem Inv.call' {s' : Shared} {ch : List Addr} (I : Inv X pins σ H s) (ho : s'.os = s.os) (u : Un (frs X.stack) ch H H' s.heap s'.heap) (hok : HOk X.prog X.w H' s'.heap) (hg : AllBare s'.gens)
    (hch : ∀ b ∈ ch, (b ∈ X.ex ∨ X.s_0.heap.objs.size ≤ b) ∧ b ≠ X.env.locals ∧ (∀ x c, X.env.cells.lookup x = some c → c ≠ b) ∧ ∀ p ∈ X.pn ++ pins, p.1 ≠ b) : Inv X pins σ H' s' := by
  obtain ⟨h', g', d', t', o'⟩ := s'
  have e : o' = s.os := ho
  subst e
  exact I.call (g' := g') (t' := t') (d' := d') u hok hg hch
end
/-! ### the judgements -/
/-- an exception: its class, its own dict's address (where it has one), the abstract heap behind it -/
abbrev XK := Value → Option Addr → Hp → Prop
abbrev St := List (Option V)
abbrev VK := V → Hp → Prop
/-- an expression's reading; a test's; an argument list's -/
abbrev TE := St → Hp → VK → Prop
abbrev TT := St → Hp → (Bool → Hp → Prop) → Prop
abbrev TA := St → Hp → (List V → Hp → Prop) → Prop
/-- what is wanted behind a statement -/
structure Ends where
  nx : St → Hp → Prop
  rt : VK
  bk : St → Hp → Prop := fun _ _ => False
  ct : St → Hp → Prop := fun _ _ => False
abbrev TS := Ends → St → Hp → Prop
def EP (X : Cx) (pins : List (Addr × Obj)) (σ : St) (Q : VK) (u : Value) (s' : Shared) : Prop := ∃ v H', Inv X pins σ H' s' ∧ RelV v u ∧ Q v H'
def TP (X : Cx) (pins : List (Addr × Obj)) (σ : St) (Q : Bool → Hp → Prop) (b : Bool) (s' : Shared) : Prop := ∃ H', Inv X pins σ H' s' ∧ Q b H'
def AP (X : Cx) (pins : List (Addr × Obj)) (σ : St) (Q : List V → Hp → Prop) (us : List Value) (s' : Shared) : Prop := ∃ vs H', Inv X pins σ H' s' ∧ Vals vs us ∧ Q vs H'
def SP (X : Cx) (pins : List (Addr × Obj)) (D : Ends) (f : Flow) (s' : Shared) : Prop :=
  match f with
  | .next => ∃ σ' H', Inv X pins σ' H' s' ∧ D.nx σ' H'
  | .brk => ∃ σ' H', Inv X pins σ' H' s' ∧ D.bk σ' H'
  | .cont => ∃ σ' H', Inv X pins σ' H' s' ∧ D.ct σ' H'
  | .ret u => ∃ v σ' H', Inv X pins σ' H' s' ∧ RelV v u ∧ D.rt v H'
def PE (X : Cx) (e : Expr) (t : TE) : Prop :=
  ∀ (pins : List (Addr × Obj)) (s : Shared) (σ : St) (H : Hp) (Q : VK), Inv X pins σ H s → t σ H Q → wpAny (model X.prog X.w) X.A (eval e X.env) (EP X pins σ Q) X.xe s
def PT (X : Cx) (e : Expr) (t : TT) : Prop :=
  ∀ (pins : List (Addr × Obj)) (s : Shared) (σ : St) (H : Hp) (Q : Bool → Hp → Prop), Inv X pins σ H s → t σ H Q → wpAny (model X.prog X.w) X.A (isTrue e X.env (eval e X.env)) (TP X pins σ Q) X.xe s
/-- a test whatever its 'whole' is (and, or) -/
def PW (X : Cx) (e : Expr) (t : TT) : Prop :=
  ∀ (whole : Sem Value) (pins : List (Addr × Obj)) (s : Shared) (σ : St) (H : Hp) (Q : Bool → Hp → Prop), Inv X pins σ H s → t σ H Q → wpAny (model X.prog X.w) X.A (isTrue e X.env whole) (TP X pins σ Q) X.xe s
theorem PW.pt {X : Cx} {e : Expr} {t : TT} (h : PW X e t) : PT X e t := h _
/-- an argument list (no star), from the left -/
def PA (X : Cx) (es : List Expr) (t : TA) : Prop :=
  ∀ (pos : Pos) (pins : List (Addr × Obj)) (s : Shared) (σ : St) (H : Hp) (Q : List V → Hp → Prop), Inv X pins σ H s → t σ H Q → wpAny (model X.prog X.w) X.A (spliced (backTo pos (starEach es X.env))) (AP X pins σ Q) X.xe s
def PS (X : Cx) (st : Stmt) (t : TS) : Prop :=
  ∀ (pins : List (Addr × Obj)) (s : Shared) (σ : St) (H : Hp) (D : Ends), Inv X pins σ H s → t D σ H → wpAny (model X.prog X.w) X.A (exec st X.env) (SP X pins D) X.xe s
def PSs (X : Cx) (st : List Stmt) (t : TS) : Prop :=
  ∀ (pins : List (Addr × Obj)) (s : Shared) (σ : St) (H : Hp) (D : Ends), Inv X pins σ H s → t D σ H → wpAny (model X.prog X.w) X.A (execs st X.env) (SP X pins D) X.xe s
/-- weaken the end -/
theorem thn {α : Type} {t : Sem α} {Q Q' : α → Shared → Prop} {M : Model} {A : Around} {E : Value → Shared → Prop} {s : Shared} (h : wpAny M A t Q E s) (hQ : ∀ a s, Q a s → Q' a s) : wpAny M A t Q' E s := wpAny_mono h hQ fun _ _ x => x
end L2
namespace L2
open PySem PySem.Spec PyProof.Rows
section
variable {X : Cx}
/-! ### names and constants -/
def tVar (i : Nat) : TE := fun σ H Q => ∃ v, σ[i]? = some (some v) ∧ Q v H
def tC (v : V) : TE := fun _ H Q => Q v H
theorem pe_var {i : Nat} {x : Str} {pos : Pos} (hN : X.N[i]? = some x) (hv : Vis X.env.scope x) (hd : (x == ("__debug__" : Str)) = false := by decide) (hcd : (x == ("__classdict__" : Str)) = false := by decide) : PE X (.Name x pos) (tVar i) := by
  intro pins s σ H Q I h
  obtain ⟨v, e, h⟩ := h
  obtain ⟨m, hn, hl⟩ := I.loc
  obtain ⟨u, r, l⟩ := hl i x v hN e hv
  have fin : EP X pins σ Q u s := ⟨v, H, I, r, h⟩
  rcases l with ⟨hk, hm⟩ | ⟨hk, c, hc, hcell⟩
  · exact wpAny_Name (wpAny_loadName_local I.ok.kind hk hn hm fin) hd
  · rcases hk with hk | hk
    · exact wpAny_Name (wpAny_loadName_cell I.ok.kind hk hc hcell fin) hd
    · exact wpAny_Name (wpAny_loadName_free I.ok.kind hk hc hcell fin hcd) hd
theorem pe_int {i j pos} : PE X (.Constant (.int i) j pos) (tC (.int i)) := fun _ _ _ H _ I h => wpAny_Constant_int ⟨.int i, H, I.tok _, ⟨_, rfl⟩, h⟩
theorem pe_bl {b j pos} : PE X (.Constant (.bool b) j pos) (tC (.bl b)) := fun _ _ _ H _ I h => Constant_bool ⟨.bl b, H, I, rfl, h⟩
/-- a global name of the def -/
def Gl (X : Cx) (x : Str) : Prop := X.env.kindOf x = some .globalImplicit
theorem ld_glob {E : Value → Shared → Prop} {pins : List (Addr × Obj)} {s : Shared} {σ : St} {H : Hp} {x : Str} {u : Value} {pos : Pos} {Q : Value → Shared → Prop} (I : Inv X pins σ H s) (hg : Gl X x) (hm : X.mg x = some u) (h : Q u s)
    (hd : (x == ("__debug__" : Str)) = false := by decide) : wpAny (model X.prog X.w) X.A (eval (.Name x pos) X.env) Q E s :=
  Calls.Name_function_global I.ok.kind hg (Calls.loadGlobal_global (by rw [I.ok.glob]; exact I.mod.glob.keeps I.bk) hm h) hd
theorem ld_blt {E : Value → Shared → Prop} {pins : List (Addr × Obj)} {s : Shared} {σ : St} {H : Hp} {x : Str} {u : Value} {pos : Pos} {Q : Value → Shared → Prop} (I : Inv X pins σ H s) (hg : Gl X x) (hm : X.mg x = none) (hv : bootBuiltins x = some u) (h : Q u s)
    (hn : x ≠ "__name__" := by decide) (hd : (x == ("__debug__" : Str)) = false := by decide) : wpAny (model X.prog X.w) X.A (eval (.Name x pos) X.env) Q E s := by
  obtain ⟨mb, h1, h2⟩ := I.mod.blt
  exact Calls.Name_function_global I.ok.kind hg (Calls.loadGlobal_builtin (by rw [I.ok.glob]; exact I.mod.glob.keeps I.bk) hm (by rw [I.ok.blt]; exact h1.keeps I.bk) ((h2 x hn).trans hv) h) hd
/-- a module's constant, a class, a function, as a value -/
theorem pe_glob {x : Str} {v : V} {u : Value} {pos : Pos} (hg : Gl X x) (hm : X.mg x = some u) (r : RelV v u) (hd : (x == ("__debug__" : Str)) = false := by decide) : PE X (.Name x pos) (tC v) :=
  fun _ _ _ H _ I h => ld_glob I hg hm ⟨v, H, I, r, h⟩ hd
/-! ### arithmetic -/
variable {a b : Expr} {ta tb : TE} {pos : Pos}
/-! ### comparisons -/
def PC (X : Cx) (op : CmpOp) (a b : Expr) (t : TE) : Prop :=
  ∀ (pins : List (Addr × Obj)) (s : Shared) (σ : St) (H : Hp) (Q : VK), Inv X pins σ H s → t σ H Q →
    wpAny (model X.prog X.w) X.A (eval a X.env) (fun v s₁ => wpAny (model X.prog X.w) X.A (eval b X.env) (fun u s₂ => wpAny (model X.prog X.w) X.A (compareOp op v u) (EP X pins σ Q) X.xe s₂) X.xe s₁) X.xe s
/-- a comparison as a value, as a test -/
def tB (t : TE) : TT := fun σ H Q => t σ H fun x H1 => ∃ c, x = .bl c ∧ Q c H1
theorem pt_cmp {op : CmpOp} {t : TE} (h : PC X op a b t) (h1 : behindInMarks op b = false := by first | exact nobehind _ (by decide) (by decide) | rfl) : PT X (.Compare a [op] [b] pos) (tB t) := by
  intro pins s σ H Q I hw
  refine wpAny_isTrue_Compare1 (thn (h pins s σ H _ I hw) fun v s1 h1 => thn h1 fun u s2 h2 => thn h2 fun c s3 ⟨x, H1, I1, r1, q1⟩ => ?_) h1
  obtain ⟨d, rfl, q⟩ := q1
  cases r1
  exact wpAny_truthy_bool ⟨H1, I1, q⟩
/-- an expression whose value is a bool, as a test -/
theorem pt_val {e : Expr} {t : TE} (h : PE X e t) (he : ∀ whole, isTrue e X.env whole = (do let v ← whole; standAt e.pos; holding [v] (truthy v)) := by intro _; rfl) : PT X e (tB t) := by
  intro pins s σ H Q I hw
  refine isTrue_plain (thn (h pins s σ H _ I hw) fun v s1 ⟨x, H1, I1, r1, q1⟩ => ?_) (he _)
  obtain ⟨d, rfl, q⟩ := q1
  cases r1
  exact wpAny_truthy_bool ⟨H1, I1, q⟩
/-! ### and, or, not -/
variable {tA tB' : TT} {rest : List Expr}
def tAnd (t u : TT) : TT := fun σ H Q => t σ H fun c H1 => if c = true then u σ H1 Q else Q false H1
def tOr (t u : TT) : TT := fun σ H Q => t σ H fun c H1 => if c = true then Q true H1 else u σ H1 Q
def tNot (t : TT) : TT := fun σ H Q => t σ H fun c H1 => Q (!c) H1
theorem pw_and1 (ha : PT X a tA) : PW X (.BoolOp .And [a] pos) tA := by
  intro wh pins s σ H Q I h
  refine isTrue_and (thn (ha pins s σ H Q I h) fun c s1 e => ?_)
  cases c with
  | true => exact isTrue_and_nil e
  | false => exact e
theorem pw_or1 (ha : PT X a tA) : PW X (.BoolOp .Or [a] pos) tA := by
  intro wh pins s σ H Q I h
  refine isTrue_or (thn (ha pins s σ H Q I h) fun c s1 e => ?_)
  cases c with
  | false => exact isTrue_or_nil e
  | true => exact e
theorem pw_and (ha : PT X a tA) (hb : PW X (.BoolOp .And (b :: rest) pos) tB') : PW X (.BoolOp .And (a :: b :: rest) pos) (tAnd tA tB') := by
  intro wh pins s σ H Q I h
  refine isTrue_and (thn (ha pins s σ H _ I h) fun c s1 ⟨H1, I1, q1⟩ => ?_)
  cases c with
  | true => exact hb wh pins s1 σ H1 Q I1 q1
  | false => exact ⟨H1, I1, q1⟩
theorem pw_or (ha : PT X a tA) (hb : PW X (.BoolOp .Or (b :: rest) pos) tB') : PW X (.BoolOp .Or (a :: b :: rest) pos) (tOr tA tB') := by
  intro wh pins s σ H Q I h
  refine isTrue_or (thn (ha pins s σ H _ I h) fun c s1 ⟨H1, I1, q1⟩ => ?_)
  cases c with
  | true => exact ⟨H1, I1, q1⟩
  | false => exact hb wh pins s1 σ H1 Q I1 q1
theorem pt_not (ha : PT X a tA) : PT X (.UnaryOp .Not a pos) (tNot tA) := by
  intro pins s σ H Q I h
  exact isTrue_not (ha pins s σ H (fun c H1 => Q (!c) H1) I h)
/-- .. as values (bools) -/
def tAndV (ta tb : TE) : TE := fun σ H Q => ta σ H fun x H1 => ∃ c, x = .bl c ∧ if c = true then tb σ H1 Q else Q (.bl false) H1
def tNotV (ta : TE) : TE := fun σ H Q => ta σ H fun x H1 => ∃ c, x = .bl c ∧ Q (.bl (!c)) H1
theorem pe_one {op} {t : TE} (h : PE X a t) : PE X (.BoolOp op [a] pos) t := fun pins s σ H Q I hw => BoolOp_one (h pins s σ H Q I hw)
theorem pe_and (ha : PE X a ta) (hb : PE X (.BoolOp .And (b :: rest) pos) tb) : PE X (.BoolOp .And (a :: b :: rest) pos) (tAndV ta tb) := by
  intro pins s σ H Q I h
  refine BoolOp_and (thn (ha pins s σ H _ I h) fun v s1 ⟨x, H1, I1, r1, q1⟩ => ?_)
  obtain ⟨c, rfl, q1⟩ := q1
  cases r1
  refine wpAny_truthy_bool ?_
  cases c with
  | true => exact hb pins s1 σ H1 Q I1 q1
  | false => exact ⟨.bl false, H1, I1, rfl, q1⟩
theorem pe_not (ha : PE X a ta) : PE X (.UnaryOp .Not a pos) (tNotV ta) := by
  intro pins s σ H Q I h
  refine UnaryOp_ (thn (ha pins s σ H _ I h) fun v s1 ⟨x, H1, I1, r1, q1⟩ => ?_)
  obtain ⟨c, rfl, q1⟩ := q1
  cases r1
  exact not_of (wpAny_truthy_bool ⟨.bl (!c), H1, I1, rfl, q1⟩)
/-- a if t else b -/
def tIf (t : TT) (ta tb : TE) : TE := fun σ H Q => t σ H fun c H1 => if c = true then ta σ H1 Q else tb σ H1 Q
theorem pe_ifExp {c : Expr} (hc : PT X c tA) (ha : PE X a ta) (hb : PE X b tb) : PE X (.IfExp c a b pos) (tIf tA ta tb) := by
  intro pins s σ H Q I h
  refine wpAny_IfExp (thn (hc pins s σ H _ I h) fun d s1 ⟨H1, I1, q1⟩ => ?_)
  cases d with
  | true => exact ha pins s1 σ H1 Q I1 q1
  | false => exact hb pins s1 σ H1 Q I1 q1
end
end L2
namespace L2
open PySem PySem.Spec PyProof.Rows
/-! ### a list, a tuple that is read: tracked, frozen, or an object of the module -/
def SqL (K : PySem.W.Frag) (H : Hp) (a : Addr) (xs : List V) : Prop :=
  Rd H a (.lst xs) ∨
    ∃ (o : Obj) (its : Array Value) (n : Nat), K.lookup a = some o ∧ o.cls = .type "list" ∧ o.dict = none ∧ o.data = .seq its n ∧ its.size ≤ sizeLine ∧ Vals xs its.toList
def SqT (K : PySem.W.Frag) (H : Hp) (a : Addr) (xs : List V) : Prop :=
  Rd H a (.tup xs) ∨
    ∃ (o : Obj) (its : Array Value) (n : Nat), K.lookup a = some o ∧ o.cls = .type "tuple" ∧ o.data = .seq its n ∧ its.size ≤ sizeLine ∧ Vals xs its.toList
def absV : Value → Option V
  | .none => some .non
  | .bool b => some (.bl b)
  | .int i _ => some (.int i)
  | .str x _ => some (.str x)
  | .bytes b _ => some (.byt b)
  | .float b _ => some (.flt b)
  | .ref a => some (.ref a)
  | .type n => some (.ty n)
  | _ => none
theorem RelV.abs {x : V} {u : Value} (r : RelV x u) : absV u = some x := by
  cases x with
  | non => cases r; rfl
  | bl _ => cases r; rfl
  | int _ => obtain ⟨t, rfl⟩ := r; rfl
  | str _ => obtain ⟨t, rfl⟩ := r; rfl
  | byt _ => obtain ⟨t, rfl⟩ := r; rfl
  | flt _ => obtain ⟨t, rfl⟩ := r; rfl
  | ref _ => cases r; rfl
  | ty _ => cases r; rfl
theorem RelV.inj {x y : V} {u : Value} (r : RelV x u) (q : RelV y u) : x = y := Option.some.inj (r.abs.symm.trans q.abs)
theorem Vals.inj : ∀ {xs ys : List V} {us : List Value}, Vals xs us → Vals ys us → xs = ys
  | _, _, _, .nil, .nil => rfl
  | _, _, _, .cons r t, .cons r' t' => by rw [r.inj r', Vals.inj t t']
section
variable {X : Cx} {pins : List (Addr × Obj)} {σ : St} {H : Hp} {s : Shared} {a : Addr} {xs ys : List V}
theorem SqL.of {K : PySem.W.Frag} (h : H a = some (.lst xs)) : SqL K H a xs := .inl (.inl h)
theorem SqT.of {K : PySem.W.Frag} (h : H a = some (.tup xs)) : SqT K H a xs := .inl (.inl h)
theorem Inv.list (I : Inv X pins σ H s) (h : SqL X.K H a xs) : ∃ its : List Value, Vals xs its ∧ PlainL s.heap a its.toArray ∧ xs.length ≤ sizeLine := by
  rcases h with h | ⟨o, its, n, hk, hc, hd, hs, hz, r⟩
  · obtain ⟨z, its, n, r, e⟩ := h.ok I.hok
    exact ⟨its, r, ⟨_, n, e, rfl, rfl, rfl⟩, z⟩
  · refine ⟨its.toList, r, ⟨o, n, I.kIn a o hk, hc, hd, by simpa using hs⟩, ?_⟩
    have e := r.length
    simp only [Array.length_toList] at e
    omega
theorem Inv.tuple (I : Inv X pins σ H s) (h : SqT X.K H a xs) : ∃ its : List Value, Vals xs its ∧ IsTup s.heap a its.toArray ∧ xs.length ≤ sizeLine := by
  rcases h with h | ⟨o, its, n, hk, hc, hs, hz, r⟩
  · obtain ⟨z, its, r, p⟩ := h.ok I.hok
    exact ⟨its, r, p, z⟩
  · refine ⟨its.toList, r, ⟨o, I.kIn a o hk, hc, n, by simpa using hs⟩, ?_⟩
    have e := r.length
    simp only [Array.length_toList] at e
    omega
theorem Inv.list_inj (I : Inv X pins σ H s) (h : SqL X.K H a xs) (h' : SqL X.K H a ys) : xs = ys := by
  obtain ⟨its, r, ⟨o, n, e, _, _, d⟩, _⟩ := I.list h
  obtain ⟨its', r', ⟨o', n', e', _, _, d'⟩, _⟩ := I.list h'
  rw [e] at e'; cases e'
  rw [d] at d'
  injection d' with d1 _
  have : its = its' := by simpa using congrArg Array.toList d1
  subst this
  exact r.inj r'
end
/-! ### another wish about exceptions -/
abbrev Cx.wish (X : Cx) (E : Value → Shared → Prop) : Cx := { X with xe := E }
/-- no exception leaves -/
abbrev Cx.nox (X : Cx) : Cx := X.wish fun _ _ => False
theorem Cx.Ok.wish {X : Cx} (ok : X.Ok) (E : Value → Shared → Prop) : (X.wish E).Ok :=
  ⟨ok.mod, ok.kind, ok.glob, ok.blt, ok.above, ok.inj, ok.has, ok.cab, ok.hd, ok.frames, ok.stk, ok.exf, ok.bs, ok.bsz, ok.noex, ok.exfs, ok.funs, ok.frf⟩
theorem Cx.Ok.unwish {X : Cx} {E : Value → Shared → Prop} (ok : (X.wish E).Ok) : X.Ok :=
  ⟨ok.mod, ok.kind, ok.glob, ok.blt, ok.above, ok.inj, ok.has, ok.cab, ok.hd, ok.frames, ok.stk, ok.exf, ok.bs, ok.bsz, ok.noex, ok.exfs, ok.funs, ok.frf⟩
section
variable {X : Cx} {pins : List (Addr × Obj)} {σ : St} {H : Hp} {s : Shared} {E : Value → Shared → Prop}
theorem Inv.wish (I : Inv X pins σ H s) (E : Value → Shared → Prop) : Inv (X.wish E) pins σ H s := ⟨I.ok.wish E, I.os, I.bare, I.base, I.loc, I.cell, I.free, I.freeC, I.pin, I.hok, I.len⟩
theorem Inv.unwish (I : Inv (X.wish E) pins σ H s) : Inv X pins σ H s := ⟨I.ok.unwish, I.os, I.bare, I.base, I.loc, I.cell, I.free, I.freeC, I.pin, I.hok, I.len⟩
theorem SP.unwish {D : Ends} {f : Flow} {s' : Shared} (h : SP (X.wish E) pins D f s') : SP X pins D f s' := by
  cases f with
  | next => obtain ⟨σ', H', I, q⟩ := h; exact ⟨σ', H', I.unwish, q⟩
  | brk => obtain ⟨σ', H', I, q⟩ := h; exact ⟨σ', H', I.unwish, q⟩
  | cont => obtain ⟨σ', H', I, q⟩ := h; exact ⟨σ', H', I.unwish, q⟩
  | ret u => obtain ⟨v, σ', H', I, r, q⟩ := h; exact ⟨v, σ', H', I.unwish, r, q⟩
theorem PSs.nox {st : List Stmt} {t : TS} (h : PSs X.nox st t) : PSs X st t := fun pins s σ H D I hw =>
  wpAny_mono (h pins s σ H D (I.wish _) hw) (fun _ _ q => q.unwish) fun _ _ z => False.elim z
end
/-! ### blocks and small statements -/
section
variable {X : Cx} {st : Stmt} {rest : List Stmt} {t u : TS} {e : Expr} {te : TE} {pos : Pos}
def tNext : TS := fun D σ H => D.nx σ H
def tSeq (t u : TS) : TS := fun D σ H => t { D with nx := u D } σ H
theorem pss_nil : PSs X [] tNext := fun _ _ σ H _ I h => wpAny_execs_nil ⟨σ, H, I, h⟩
theorem pss_cons (h1 : PS X st t) (h2 : PSs X rest u) : PSs X (st :: rest) (tSeq t u) := by
  intro pins s σ H D I h
  refine wpAny_execs_cons (thn (h1 pins s σ H { D with nx := u D } I h) fun f s1 q => ?_)
  cases f with
  | next =>
    obtain ⟨σ', H', I', q⟩ := q
    exact h2 pins s1 σ' H' D I' q
  | ret v => exact q
  | brk => exact q
  | cont => exact q
theorem pss_one (h1 : PS X st t) : PSs X [st] t := by
  intro pins s σ H D I h
  refine wpAny_execs_cons (thn (h1 pins s σ H D I h) fun f s1 q => ?_)
  cases f with
  | next => exact wpAny_execs_nil q
  | ret v => exact q
  | brk => exact q
  | cont => exact q
/-- in a def's body nothing is shown -/
theorem Inv.quiet {pins : List (Addr × Obj)} {σ : St} {H : Hp} {s : Shared} (I : Inv X pins σ H s) : interactive X.env = false := by simp [interactive, I.ok.kind]
/-- an expression whose value is dropped -/
def tDrop (te : TE) : TS := fun D σ H => te σ H fun _ H1 => D.nx σ H1
theorem ps_expr (he : PE X e te) (hs : swapsWith e none pos.line X.env = pure false := by rfl) : PS X (.Expr e pos) (tDrop te) := by
  intro pins s σ H D I h
  exact wpAny_Expr_any (thn (he pins s σ H _ I h) fun v s1 ⟨x, H1, I1, r1, q1⟩ => ⟨σ, H1, I1, q1⟩) I.quiet hs
def tRet (te : TE) : TS := fun D σ H => te σ H D.rt
theorem ps_ret (he : PE X e te) : PS X (.Return (some e) pos) (tRet te) := by
  intro pins s σ H D I h
  exact wpAny_Return_some (thn (he pins s σ H _ I h) fun v s1 ⟨x, H1, I1, r1, q1⟩ => ⟨x, σ, H1, I1, r1, q1⟩)
def tIfS (c : TT) (t u : TS) : TS := fun D σ H => c σ H fun b H1 => if b = true then t D σ H1 else u D σ H1
theorem ps_if {c : Expr} {a b : List Stmt} {tc : TT} (hc : PT X c tc) (ha : PSs X a t) (hb : PSs X b u) : PS X (.If c a b pos) (tIfS tc t u) := by
  intro pins s σ H D I h
  refine wpAny_If (thn (hc pins s σ H _ I h) fun d s1 ⟨H1, I1, q1⟩ => ?_)
  cases d with
  | true => exact ha pins s1 σ H1 D I1 q1
  | false => exact hb pins s1 σ H1 D I1 q1
end
/-! ### targets -/
abbrev TG := V → St → Hp → (St → Hp → Prop) → Prop
abbrev TGs := List V → St → Hp → (St → Hp → Prop) → Prop
def PG (X : Cx) (target : Expr) (t : TG) : Prop :=
  ∀ (pins : List (Addr × Obj)) (s : Shared) (σ : St) (H : Hp) (v : V) (u : Value) (Q : St → Hp → Prop), Inv X pins σ H s → RelV v u → t v σ H Q →
    wpAny (model X.prog X.w) X.A (assign target X.env u) (fun _ s' => ∃ σ' H', Inv X pins σ' H' s' ∧ Q σ' H') X.xe s
/-- several targets, one after another -/
def PGs (X : Cx) (ts : List Expr) (t : TGs) : Prop :=
  ∀ (pins : List (Addr × Obj)) (s : Shared) (σ : St) (H : Hp) (vs : List V) (us : List Value) (Q : St → Hp → Prop), Inv X pins σ H s → Vals vs us → t vs σ H Q →
    wpAny (model X.prog X.w) X.A (assignInOrder ((assignEach ts X.env).map (·.2)) us) (fun _ s' => ∃ σ' H', Inv X pins σ' H' s' ∧ Q σ' H') X.xe s
/-- a op= b, by values -/
abbrev TIp := V → V → Hp → VK → Prop
def PIp (X : Cx) (op : Operator) (t : TIp) : Prop :=
  ∀ (pins : List (Addr × Obj)) (s : Shared) (σ : St) (H : Hp) (x y : V) (v u : Value) (Q : VK), Inv X pins σ H s → RelV x v → RelV y u → t x y H Q →
    wpAny (model X.prog X.w) X.A (inplaceOp op v u) (EP X pins σ Q) X.xe s
section
variable {X : Cx} {pos : Pos}
def gName (i : Nat) : TG := fun v σ H Q => Q (σ.set i (some v)) H
theorem pg_name {i : Nat} {x : Str} (hN : X.N.Nodup) (hi : X.N[i]? = some x) (hx : Loc X.env.scope x) (hf : X.fn x = true ∨ X.env.scope.names.lookup x = some .local := by first | exact .inl rfl | exact .inr rfl | assumption) : PG X (.Name x pos) (gName i) := by
  intro pins s σ H v u Q I r h
  exact wpAny_assign_Name (store_ok I hN hi hx r (fun s' I' => ⟨_, H, I', h⟩) hf)
def gNil : TGs := fun vs σ H Q => vs = [] ∧ Q σ H
def gCons (t : TG) (u : TGs) : TGs := fun vs σ H Q => ∃ v r, vs = v :: r ∧ t v σ H fun σ' H' => u r σ' H' Q
theorem pgs_nil : PGs X [] gNil := by
  intro pins s σ H vs us Q I r h
  obtain ⟨e, h⟩ := h
  subst e
  cases r
  exact assignInOrder_nil ⟨σ, H, I, h⟩
theorem pgs_cons {e : Expr} {es : List Expr} {t : TG} {u : TGs} (h1 : PG X e t) (h2 : PGs X es u)
    (hs : (assignEach (e :: es) X.env).map (·.2) = assign e X.env :: (assignEach es X.env).map (·.2) := by rfl) : PGs X (e :: es) (gCons t u) := by
  intro pins s σ H vs us Q I r h
  obtain ⟨v, vr, e1, h⟩ := h
  subst e1
  cases r with
  | cons r rr =>
    rw [hs]
    refine assignInOrder_cons (thn (h1 pins s σ H _ _ _ I r h) fun _ s1 ⟨σ1, H1, I1, q1⟩ => ?_)
    exact h2 pins s1 σ1 H1 _ _ Q I1 rr q1
/-- (a, b, ..) = a tuple of that length -/
def gTup (K : PySem.W.Frag) (n : Nat) (t : TGs) : TG := fun v σ H Q => ∃ a xs, v = .ref a ∧ SqT K H a xs ∧ xs.length = n ∧ t xs σ H Q
theorem pg_tup {es : List Expr} {k : Nat} {t : TGs} {n : Nat} (hc : X.calm = true) (h : PGs X es t)
    (hn : (assignEach es X.env).length = n := by rfl) (hst : (assignEach es X.env).findIdx? (·.1) = none := by rfl) : PG X (.Tuple es k pos) (gTup X.K n t) := by
  intro pins s σ H v u Q I r hw
  obtain ⟨a, xs, e1, hq, hl, hw⟩ := hw
  subst e1
  cases r
  obtain ⟨its, rv, ht, hz⟩ := I.tuple hq
  refine assign_Tuple_tuple (I.ok.hd hc) ht (by simp [hn, ← hl, rv.length]) hst fun h' hx => ?_
  have I1 : Inv X pins σ H { s with heap := h' } := I.kept (t' := s.toks) fun b o e => hx b o (Nat.ne_of_lt (Heap.lt_size e)) e
  exact h pins _ σ H xs _ Q I1 (by simpa using rv) hw
/-- target = value -/
def tAsg (te : TE) (g : TG) : TS := fun D σ H => te σ H fun x H1 => g x σ H1 D.nx
/-- name = value -/
theorem ps_set {i : Nat} {x : Str} {e : Expr} {te : TE} {pos' : Pos} (hN : X.N.Nodup) (hi : X.N[i]? = some x) (hx : Loc X.env.scope x) (he : PE X e te) (hs : swapsWith e (some (.Name x pos')) pos.line X.env = pure false := by rfl) (hf : X.fn x = true ∨ X.env.scope.names.lookup x = some .local := by first | exact .inl rfl | exact .inr rfl | assumption) :
    PS X (.Assign [.Name x pos'] e pos) (tAsg te (gName i)) := by
  intro pins s σ H D I h
  refine wpAny_Assign_Name (thn (he pins s σ H _ I h) fun v s1 ⟨y, H1, I1, r1, q1⟩ => ?_) hs
  exact store_ok I1 hN hi hx r1 (fun s2 I2 => ⟨_, H1, I2, q1⟩) hf
/-- name op= e -/
def tAug (i : Nat) (te : TE) (ti : TIp) : TS := fun D σ H => ∃ x, σ[i]? = some (some x) ∧ te σ H fun y H1 => ti x y H1 fun z H2 => D.nx (σ.set i (some z)) H2
theorem ps_aug {i : Nat} {x : Str} {e : Expr} {te : TE} {op : Operator} {ti : TIp} {pos' : Pos} (hN : X.N.Nodup) (hi : X.N[i]? = some x) (hx : Loc X.env.scope x) (he : PE X e te) (ho : PIp X op ti) (hf : X.fn x = true ∨ X.env.scope.names.lookup x = some .local := by first | exact .inl rfl | exact .inr rfl | assumption) :
    PS X (.AugAssign (.Name x pos') op e pos) (tAug i te ti) := by
  intro pins s σ H D I h
  obtain ⟨v, e1, h⟩ := h
  obtain ⟨m, hn, hl⟩ := I.loc
  have vis : Vis X.env.scope x := by rcases hx with k | k; exact .inl k; exact .inr (.inl k)
  obtain ⟨u, r, l⟩ := hl i x v hi e1 vis
  refine wpAny_AugAssign_Name ?_
  have go : wpAny (model X.prog X.w) X.A (eval e X.env) (fun w s₂ => wpAny (model X.prog X.w) X.A (inplaceOp op u w) (fun r s₃ => wpAny (model X.prog X.w) X.A (storeName X.env x r) (fun _ => SP X pins D .next) X.xe s₃) X.xe s₂) X.xe s := by
    refine thn (he pins s σ H _ I h) fun w s1 ⟨y, H1, I1, r1, q1⟩ => ?_
    refine thn (ho pins s1 σ H1 v y u w _ I1 r r1 q1) fun z s2 ⟨zv, H2, I2, r2, q2⟩ => ?_
    exact store_ok I2 hN hi hx r2 (fun s3 I3 => ⟨_, H2, I3, q2⟩) hf
  rcases l with ⟨hk, hm⟩ | ⟨hk, c, hc, hcell⟩
  · exact wpAny_loadName_local I.ok.kind hk hn hm go
  · rcases hk with hk | hk
    · exact wpAny_loadName_cell I.ok.kind hk hc hcell go
    · rcases hx with k | k
      · have : X.env.scope.names.lookup x = some .free := hk
        rw [k] at this; cases this
      · have : X.env.scope.names.lookup x = some .free := hk
        rw [k] at this; cases this
/-- ints -/
def ipI (f : Int → Int → Int) : TIp := fun x y H Q => ∃ i j, x = .int i ∧ y = .int j ∧ Q (.int (f i j)) H
theorem ip_add : PIp X .Add (ipI fun i j => i + j) := by
  intro pins s σ H x y v u Q I r1 r2 h
  obtain ⟨i, j, e1, e2, q⟩ := h
  subst e1; subst e2
  obtain ⟨t, rfl⟩ := r1
  obtain ⟨t', rfl⟩ := r2
  exact iadd_int ⟨.int _, H, I.tok _, ⟨_, rfl⟩, q⟩
end
/-! ### while -/
section
variable {X : Cx} {pos : Pos}
/-- the invariant W with its measure -/
def tWhile (c : TT) (tb : TS) : TS := fun D σ H => ∃ W : Nat → St → Hp → Prop, (∃ m, W m σ H) ∧ ∀ m σ H, W m σ H →
  c σ H fun b H1 => if b = true then ∃ N : St → Hp → Prop, (∀ σ' H', N σ' H' → ∃ m', m' < m ∧ W m' σ' H') ∧ tb { D with nx := N, ct := N, bk := D.nx } σ H1 else D.nx σ H1
theorem ps_while {c : Expr} {body : List Stmt} {tc : TT} {tb : TS} (hp : PassesOwn (model X.prog X.w) X.A X.env X.xe) (hc : PT X c tc) (hb : PSs X body tb) : PS X (.While c body [] pos) (tWhile tc tb) := by
  intro pins s σ H D I h
  obtain ⟨W, ⟨m0, w0⟩, turn⟩ := h
  refine wpAny_While (codeAny_whileLoop (fun n s' => ∃ σ' H', Inv X pins σ' H' s' ∧ W n σ' H') ?_ m0 ⟨σ, H, I, w0⟩)
  rintro n s1 ⟨σ1, H1, I1, w1⟩
  refine wpAny_passesOwn hp (thn (hc pins s1 σ1 H1 _ I1 (turn n σ1 H1 w1)) fun b s2 ⟨H2, I2, q2⟩ => ?_)
  cases b with
  | true =>
    obtain ⟨N, hN, q2⟩ := q2
    rw [if_pos rfl]
    refine wpAny_passesOwn hp (thn (hb pins s2 σ1 H2 _ I2 q2) fun f s3 q3 => ?_)
    cases f with
    | next =>
      obtain ⟨σ3, H3, I3, n3⟩ := q3
      obtain ⟨m', hm, w3⟩ := hN σ3 H3 n3
      exact ⟨m', hm, σ3, H3, I3, w3⟩
    | cont =>
      obtain ⟨σ3, H3, I3, n3⟩ := q3
      obtain ⟨m', hm, w3⟩ := hN σ3 H3 n3
      exact ⟨m', hm, σ3, H3, I3, w3⟩
    | brk => exact q3
    | ret v => exact q3
  | false =>
    rw [if_neg Bool.false_ne_true]
    exact wpAny_execs_nil ⟨σ1, H2, I2, q2⟩
end
/-! ### what a loop or a comprehension walks -/
/-- at turn i: it yields x (the heap may grow), or it stops -/
structure It where
  go : Nat → Hp → Prop
  yld : Nat → Hp → V → Hp → Prop
  stop : Nat → Hp → Prop
/-- the iterator's own objects may turn: they are not the frame's, not pinned, younger than the entry (or a comprehension's own) -/
def FpOk (X : Cx) (pins : List (Addr × Obj)) (H : Hp) (b : Addr) : Prop :=
  H b = none ∧ b ≠ X.env.locals ∧ b ∉ X.fs ∧ (b ∈ X.ex ∨ X.s_0.heap.objs.size ≤ b) ∧ (∀ x c, X.env.cells.lookup x = some c → c ≠ b) ∧ ∀ p ∈ X.pn ++ pins, p.1 ≠ b
theorem Inv.fpOk {X : Cx} {pins : List (Addr × Obj)} {σ : St} {H H' : Hp} {s : Shared} {b : Addr} (I : Inv X pins σ H s) (hb : s.heap.objs.size ≤ b) (hn : H' b = none) : FpOk X pins H' b := by
  refine ⟨hn, Nat.ne_of_gt (Nat.lt_of_lt_of_le I.lt hb), I.nofs hb, .inr (Nat.le_trans I.sz hb), fun x c e z => ?_, fun p hp z => ?_⟩
  · obtain ⟨v, q⟩ := I.cell x c e
    exact absurd (Nat.lt_of_lt_of_le q.lt (by rw [z]; exact hb)) (Nat.lt_irrefl _)
  · exact absurd (Nat.lt_of_lt_of_le (Heap.lt_size (I.pin p hp).1) (by rw [z]; exact hb)) (Nat.lt_irrefl _)
structure Turn (P : Program) (w : World) (K : PySem.W.Frag) (tg : Expr) (J : It) (fp : List Addr) (it : Addr) (tn : Nat → Heap → Prop) : Prop where
  mem : it ∈ fp
  obj : ∀ i h, tn i h → ∀ b ∈ fp, ∃ o, h.get? b = some o ∧ ∀ v, o.data ≠ .cell v
  keep : ∀ i h h', tn i h → (∀ b ∈ fp, ∀ o, h.get? b = some o → h'.get? b = some o) → tn i h'
  item : ∀ (X : Cx), X.prog = P → X.w = w → X.K = K → X.calm = true → ∀ (i : Nat) (pins : List (Addr × Obj)) (s : Shared) (σ : St) (H : Hp) (E : Value → Shared → Prop), Inv X pins σ H s → (∀ b ∈ fp, FpOk X pins H b) → tn i s.heap → J.go i H →
    wpAny (model P w) X.A (pyNext (.ref it)) (fun r s1 => ∃ u, r = some u ∧
      wpAny (model P w) X.A (letOwnedTupleGo tg (.ref it) u) (fun _ s2 => ∃ x H', Inv X pins σ H' s2 ∧ RelV x u ∧ J.yld i H x H' ∧ tn (i + 1) s2.heap ∧ ∀ b ∈ fp, H' b = none) E s1) E s
  done : ∀ (X : Cx), X.prog = P → X.w = w → X.K = K → X.calm = true → ∀ (i : Nat) (pins : List (Addr × Obj)) (s : Shared) (σ : St) (H : Hp) (E : Value → Shared → Prop), Inv X pins σ H s → (∀ b ∈ fp, FpOk X pins H b) → tn i s.heap → J.stop i H →
    wpAny (model P w) X.A (pyNext (.ref it)) (fun r s1 => r = none ∧ Inv X pins σ H s1) E s
  self : ∀ (A : Around) (i : Nat) (s : Shared) (Q : Value → Shared → Prop) (E : Value → Shared → Prop), tn i s.heap → Q (.ref it) s → wpAny (model P w) A (pyIter (.ref it)) Q E s
abbrev TI := St → Hp → (It → Hp → Prop) → Prop
/-- an iterator has come -/
def PIE (X : Cx) (pins : List (Addr × Obj)) (σ : St) (tg : Expr) (R : It → Hp → Prop) (itv : Value) (s2 : Shared) : Prop :=
  ∃ (it : Addr) (fp : List Addr) (tn : Nat → Heap → Prop) (J : It) (H' : Hp), itv = .ref it ∧ Inv X pins σ H' s2 ∧ Turn X.prog X.w X.K tg J fp it tn ∧ tn 0 s2.heap ∧ (∀ b ∈ fp, FpOk X pins H' b) ∧ R J H'
def PI (X : Cx) (tg iter : Expr) (wi : TI) : Prop :=
  ∀ (pins : List (Addr × Obj)) (s : Shared) (σ : St) (H : Hp) (R : It → Hp → Prop), Inv X pins σ H s → wi σ H R →
    wpAny (model X.prog X.w) X.A (eval iter X.env) (fun v s1 => wpAny (model X.prog X.w) X.A (pyIter v) (PIE X pins σ tg R) X.xe s1) X.xe s
/-- the step ahead of the store is nothing for an iterator that keeps no tuple -/
theorem go_of {M : Model} {A : Around} {E : Value → Shared → Prop} {s : Shared} {tg : Expr} {it : Addr} {u : Value} {o : Obj} {n : String} {vs : Array Value} {Q : Unit → Shared → Prop} (ho : s.heap.get? it = some o) (hc : o.cls = .type n) (hd : o.data = .fields vs)
    (hn : ["enumerate", "zip", "dict_itemiterator", "dict_reverseitemiterator", "odict_iterator", "itertools.zip_longest", "itertools.pairwise"].contains n = false) (hQ : Q () s) : wpAny M A (letOwnedTupleGo tg (.ref it) u) Q E s := by
  unfold letOwnedTupleGo
  cases tg <;> first
    | exact wpAny_pure hQ
    | (cases u <;> first
        | exact wpAny_pure hQ
        | (refine wpAny_bind (wpAny_load ho ?_)
           rw [hc, hd]
           show wpAny M A (if (["enumerate", "zip", "dict_itemiterator", "dict_reverseitemiterator", "odict_iterator", "itertools.zip_longest", "itertools.pairwise"].contains n && vs[0]? == some (rawInt _)) = true then _ else _) Q E s
           rw [if_neg (by intro h; rw [hn, Bool.false_and] at h; cases h)]
           exact wpAny_pure hQ))
/-- the list at a, as it stands at each turn (a loop may append to it) -/
def Itl (K : PySem.W.Frag) (a : Addr) : It :=
  ⟨fun i H => ∃ xs x, SqL K H a xs ∧ xs[i]? = some x, fun i H x H' => H' = H ∧ ∀ xs, SqL K H a xs → xs[i]? = some x, fun i H => ∃ xs, SqL K H a xs ∧ xs.length ≤ i⟩
theorem turn_list {P : Program} {w : World} {K : PySem.W.Frag} {tg : Expr} (a it : Addr) : Turn P w K tg (Itl K a) [it] it (fun i h => h.IsListIter it a i) where
  mem := by simp
  obj := fun i h st b hb => by
    have e : b = it := by simpa using hb
    subst e
    obtain ⟨o, e, c, d⟩ := st
    exact ⟨o, e, fun v z => by rw [d] at z; cases z⟩
  keep := fun i h h' st k => st.at fun o e => k it (by simp) o e
  item := by
    intro X hP hw hK hc i pins s σ H E I hf st hg
    subst hP hw hK
    obtain ⟨xs, x, hq, hx⟩ := hg
    obtain ⟨its, rv, p, hz⟩ := I.list hq
    obtain ⟨u, hu, ru⟩ := rv.get hx
    obtain ⟨f0, f1, f2, f3, f4, f5⟩ := hf it (by simp)
    refine wpAny_pyNext_list_item st p.isList (x := u) (by simpa using hu) fun h' st' sb => ?_
    have I1 : Inv X pins σ H { s with heap := h' } := I.turned (t' := s.toks) (fun b o hb e => (sb.2 b hb).trans e) f0 f1 f3 f4 f5
    obtain ⟨o, e, c, d⟩ := id st'
    exact ⟨u, rfl, go_of (s := { s with heap := h' }) e c d (by decide) ⟨x, H, I1, ru, ⟨rfl, fun ys hy => by rw [I.list_inj hy hq]; exact hx⟩, st', fun b hb => (hf b hb).1⟩⟩
  done := by
    intro X hP hw hK hc i pins s σ H E I hf st hg
    subst hP hw hK
    obtain ⟨xs, hq, hx⟩ := hg
    obtain ⟨its, rv, p, hz⟩ := I.list hq
    obtain ⟨f0, f1, f2, f3, f4, f5⟩ := hf it (by simp)
    have hl := rv.length
    exact wpAny_pyNext_list_end (I.ok.hd hc) st p.isList (by simp; omega) fun h' eb => ⟨rfl, I.turned (t' := s.toks) (fun b o hb e => eb b o hb e) f0 f1 f3 f4 f5⟩
  self := fun _ _ _ _ _ st h => wpAny_pyIter_listiter st h
end L2
namespace L2
open PySem PySem.Spec PyProof.Rows
section
variable {X : Cx} {tg : Expr}
def iList (K : PySem.W.Frag) (tl : TE) : TI := fun σ H R => tl σ H fun x H1 => ∃ a, x = .ref a ∧ (∃ xs, SqL K H1 a xs) ∧ R (Itl K a) H1
theorem pi_list {l : Expr} {tl : TE} (hl : PE X l tl) : PI X tg l (iList X.K tl) := by
  intro pins s σ H R I h
  refine thn (hl pins s σ H _ I h) fun v s1 ⟨x, H1, I1, r1, q1⟩ => ?_
  obtain ⟨a, e, ⟨xs, hq⟩, q⟩ := q1
  subst e
  cases r1
  obtain ⟨its, rv, p, hz⟩ := I1.list hq
  refine wpAny_pyIter_list p.isList ?_
  refine ⟨s1.heap.objs.size, [s1.heap.objs.size], _, _, H1, rfl, I1.kept (t' := s1.toks) fun b o e => Heap.get?_push_of_some _ e, turn_list a _, ⟨_, Heap.get?_push_size _ rfl, rfl, rfl⟩, fun b hb => ?_, q⟩
  have e : b = s1.heap.objs.size := by simpa using hb
  subst e
  exact I1.fpOk (Nat.le_refl _) (I1.hok.fresh (Nat.le_refl _))
/-! ### for -/
/-- W: the invariant by the turn and a measure; N: what the body is to reach -/
def tFor (wi : TI) (g : TG) (tb : TS) : TS := fun D σ H => wi σ H fun J H1 => ∃ W : Nat → Nat → St → Hp → Prop, (∃ m, W 0 m σ H1) ∧ ∀ i m σ H, W i m σ H →
  (J.stop i H ∧ D.nx σ H) ∨ (J.go i H ∧ ∃ N : St → Hp → Prop, (∀ σ' H', N σ' H' → ∃ m', m' < m ∧ W (i + 1) m' σ' H') ∧ ∀ x H', J.yld i H x H' → g x σ H' fun σ2 H2 => tb { D with nx := N, ct := N, bk := D.nx } σ2 H2)
/-- the records at fp as they stand -/
def pinsAt (fp : List Addr) (h : Heap) : List (Addr × Obj) := fp.filterMap fun b => (h.get? b).map fun o => (b, o)
theorem mem_pinsAt {fp : List Addr} {h : Heap} {b : Addr} {o : Obj} (hb : b ∈ fp) (e : h.get? b = some o) : (b, o) ∈ pinsAt fp h := List.mem_filterMap.mpr ⟨b, hb, by rw [e]; rfl⟩
theorem of_pinsAt {fp : List Addr} {h : Heap} {p : Addr × Obj} (hp : p ∈ pinsAt fp h) : p.1 ∈ fp ∧ h.get? p.1 = some p.2 := by
  obtain ⟨b, hb, e⟩ := List.mem_filterMap.mp hp
  cases q : h.get? b with
  | none => rw [q] at e; cases e
  | some o =>
    rw [q] at e
    have e' : (b, o) = p := Option.some.inj e
    subst e'
    exact ⟨hb, q⟩
theorem Inv.pinned {pins : List (Addr × Obj)} {σ : St} {H : Hp} {s : Shared} {fp : List Addr} (I : Inv X pins σ H s) (hf : ∀ b ∈ fp, FpOk X pins H b) (ho : ∀ b ∈ fp, ∃ o, s.heap.get? b = some o ∧ ∀ v, o.data ≠ .cell v) : Inv X (pins ++ pinsAt fp s.heap) σ H s :=
  I.pins_of fun p hp => (List.mem_append.mp hp).elim (fun z => I.pin p (List.mem_append_right _ z)) fun z => by
    obtain ⟨hb, e⟩ := of_pinsAt z
    obtain ⟨f0, f1, f2, _⟩ := hf p.1 hb
    obtain ⟨o, e', d⟩ := ho p.1 hb
    rw [e] at e'; cases e'
    exact ⟨e, f0, f1, f2, d⟩
theorem Inv.unpinned {pins pl : List (Addr × Obj)} {σ : St} {H : Hp} {s : Shared} (I : Inv X (pins ++ pl) σ H s) : Inv X pins σ H s := I.pins_of fun p hp => I.pin p (List.mem_append_right _ (List.mem_append_left _ hp))
theorem ps_for {iter : Expr} {body : List Stmt} {wi : TI} {g : TG} {tb : TS} {pos : Pos} (hp : PassesOwn (model X.prog X.w) X.A X.env X.xe) (hc : X.calm = true) (hi : PI X tg iter wi) (hg : PG X tg g) (hb : PSs X body tb)
    (hs : ∀ x, foldedSetIterable iter X.env x = pure x := by intro _; rfl) : PS X (.For tg iter body [] pos) (tFor wi g tb) := by
  intro pins s σ H D I h
  refine wpAny_For (thn (hi pins s σ H _ I h) fun v s1 h1 => thn h1 fun itv s2 h2 => ?_) hs
  obtain ⟨it, fp, tn, J, H2, e, I2, T, st2, f2, W, ⟨m0, w0⟩, turn⟩ := h2
  subst e
  -- what stays true of the iterator's objects through the loop
  have stat : ∀ {H' : Hp}, (∀ b ∈ fp, H' b = none) → ∀ b ∈ fp, FpOk X pins H' b := fun hn b hb => ⟨hn b hb, (f2 b hb).2⟩
  refine codeAny_forLoop_any (fun n s' => ∃ i σ' H', Inv X pins σ' H' s' ∧ tn i s'.heap ∧ (∀ b ∈ fp, H' b = none) ∧ W i n σ' H') ?_ m0 ⟨0, σ, H2, I2, st2, fun b hb => (f2 b hb).1, w0⟩
  rintro n s3 ⟨i, σ3, H3, I3, st3, fr3, w3⟩
  rcases turn i n σ3 H3 w3 with ⟨stop, qn⟩ | ⟨go, N, hN, step⟩
  · refine wpAny_passesOwn hp (thn (T.done X rfl rfl rfl hc i pins s3 σ3 H3 X.xe I3 (stat fr3) st3 stop) fun r s4 ⟨hr, I4⟩ => ?_)
    subst hr
    exact wpAny_execs_nil ⟨σ3, H3, I4, qn⟩
  · refine wpAny_passesOwn hp (thn (T.item X rfl rfl rfl hc i pins s3 σ3 H3 X.xe I3 (stat fr3) st3 go) fun r s4 ⟨u, hr, h4⟩ => ?_)
    subst hr
    refine wpAny_passesOwn hp (thn h4 fun _ s5 ⟨x, H5, I5, r5, y5, st5, fr5⟩ => ?_)
    have I5' := I5.pinned (stat fr5) (T.obj _ _ st5)
    refine wpAny_passesOwn hp (thn (hg _ s5 σ3 H5 x u _ I5' r5 (step x H5 y5)) fun _ s6 ⟨σ6, H6, I6, q6⟩ => ?_)
    refine wpAny_passesOwn hp (thn (hb _ s6 σ6 H6 _ I6 q6) fun f s7 q7 => ?_)
    have again : ∀ {σ7 : St} {H7 : Hp}, Inv X (pins ++ pinsAt fp s5.heap) σ7 H7 s7 → N σ7 H7 → ∃ m, m < n ∧ ∃ i σ' H', Inv X pins σ' H' s7 ∧ tn i s7.heap ∧ (∀ b ∈ fp, H' b = none) ∧ W i m σ' H' := fun {σ7 H7} I7 n7 => by
      obtain ⟨m', hm, w7⟩ := hN σ7 H7 n7
      refine ⟨m', hm, i + 1, σ7, H7, I7.unpinned, T.keep _ _ _ st5 fun b hb o e => (I7.pin (b, o) (List.mem_append_right _ (List.mem_append_right _ (mem_pinsAt hb e)))).1, fun b hb => ?_, w7⟩
      obtain ⟨o, e, d⟩ := T.obj _ _ st5 b hb
      exact (I7.pin (b, o) (List.mem_append_right _ (List.mem_append_right _ (mem_pinsAt hb e)))).2.1
    cases f with
    | next => obtain ⟨σ7, H7, I7, n7⟩ := q7; exact again I7 n7
    | cont => obtain ⟨σ7, H7, I7, n7⟩ := q7; exact again I7 n7
    | brk => obtain ⟨σ7, H7, I7, q7⟩ := q7; exact ⟨σ7, H7, I7.unpinned, q7⟩
    | ret v => obtain ⟨x7, σ7, H7, I7, r7, q7⟩ := q7; exact ⟨x7, σ7, H7, I7.unpinned, r7, q7⟩
end
/-! ### the forms one uses -/
/-- over a list that the body leaves as it is -/
theorem for_list {K : PySem.W.Frag} {a : Addr} {xs : List V} {g : TG} {tb : TS} {D : Ends} {σ : St} {H : Hp} (Pv : Nat → St → Hp → Prop) (h0 : Pv 0 σ H) (hl : ∀ i σ H, i ≤ xs.length → Pv i σ H → SqL K H a xs)
    (hs : ∀ i x σ H, xs[i]? = some x → Pv i σ H → g x σ H fun σ2 H2 => tb { D with nx := Pv (i + 1), ct := Pv (i + 1), bk := D.nx } σ2 H2) (hd : ∀ σ H, Pv xs.length σ H → D.nx σ H) :
    ∃ W : Nat → Nat → St → Hp → Prop, (∃ m, W 0 m σ H) ∧ ∀ i m σ H, W i m σ H →
      ((Itl K a).stop i H ∧ D.nx σ H) ∨ ((Itl K a).go i H ∧ ∃ N : St → Hp → Prop, (∀ σ' H', N σ' H' → ∃ m', m' < m ∧ W (i + 1) m' σ' H') ∧ ∀ x H', (Itl K a).yld i H x H' → g x σ H' fun σ2 H2 => tb { D with nx := N, ct := N, bk := D.nx } σ2 H2) := by
  refine ⟨fun i m σ H => m = xs.length - i ∧ i ≤ xs.length ∧ Pv i σ H, ⟨xs.length, by simp, Nat.zero_le _, h0⟩, ?_⟩
  rintro i m σ H ⟨rfl, hi, p⟩
  have q := hl i σ H hi p
  by_cases hlt : i < xs.length
  · refine .inr ⟨⟨xs, xs[i], q, by simp [hlt]⟩, Pv (i + 1), fun σ' H' p' => ⟨xs.length - (i + 1), by omega, rfl, hlt, p'⟩, fun x H' y => ?_⟩
    obtain ⟨e, y⟩ := y
    subst e
    exact hs i x σ _ (y xs q) p
  · have e : i = xs.length := by omega
    subst e
    exact .inl ⟨⟨xs, q, Nat.le_refl _⟩, hd σ H p⟩
/-- while, by a word and a measure of the state -/
theorem while_by {c : TT} {tb : TS} {D : Ends} {σ : St} {H : Hp} (Pv : St → Hp → Prop) (μ : St → Hp → Nat) (h0 : Pv σ H)
    (hs : ∀ σ H, Pv σ H → c σ H fun b H1 => if b = true then tb { D with nx := fun σ' H' => Pv σ' H' ∧ μ σ' H' < μ σ H, ct := fun σ' H' => Pv σ' H' ∧ μ σ' H' < μ σ H, bk := D.nx } σ H1 else D.nx σ H1)
    (mono : ∀ σ H Q Q', (∀ b H1, Q b H1 → Q' b H1) → c σ H Q → c σ H Q') : tWhile c tb D σ H := by
  refine ⟨fun m σ H => m = μ σ H ∧ Pv σ H, ⟨_, rfl, h0⟩, ?_⟩
  rintro m σ H ⟨rfl, p⟩
  refine mono σ H _ _ (fun b H1 q => ?_) (hs σ H p)
  cases b with
  | true => exact ⟨_, fun σ' H' ⟨p', l⟩ => ⟨_, l, rfl, p'⟩, q⟩
  | false => exact q
end L2
namespace L2
open PySem PySem.Spec PyProof.Rows
abbrev R2 := V → V → Hp → VK → Prop
/-- a two-place operation on values: f is binaryOp op, inplaceOp op or compareOp op -/
def OpR (X : Cx) (f : Value → Value → Sem Value) (r : R2) : Prop :=
  ∀ (pins : List (Addr × Obj)) (s : Shared) (σ : St) (H : Hp) (x y : V) (v u : Value) (Q : VK), Inv X pins σ H s → RelV x v → RelV y u → r x y H Q →
    wpAny (model X.prog X.w) X.A (f v u) (EP X pins σ Q) X.xe s
/-- a one-place operation -/
def UnR (X : Cx) (f : Value → Sem Value) (r : V → Hp → VK → Prop) : Prop :=
  ∀ (pins : List (Addr × Obj)) (s : Shared) (σ : St) (H : Hp) (x : V) (v : Value) (Q : VK), Inv X pins σ H s → RelV x v → r x H Q →
    wpAny (model X.prog X.w) X.A (f v) (EP X pins σ Q) X.xe s
/-- a call of a value that is known (a builtin, a type) with values -/
def CallR (X : Cx) (f : Value) (r : List V → Hp → VK → Prop) : Prop :=
  ∀ (pins : List (Addr × Obj)) (s : Shared) (σ : St) (H : Hp) (xs : List V) (us : List Value) (Q : VK), Inv X pins σ H s → Vals xs us → r xs H Q →
    wpAny (model X.prog X.w) X.A (call f us) (EP X pins σ Q) X.xe s
/-- a value's truth -/
def TruR (X : Cx) (r : V → Hp → (Bool → Hp → Prop) → Prop) : Prop :=
  ∀ (pins : List (Addr × Obj)) (s : Shared) (σ : St) (H : Hp) (x : V) (v : Value) (Q : Bool → Hp → Prop), Inv X pins σ H s → RelV x v → r x H Q →
    wpAny (model X.prog X.w) X.A (truthy v) (TP X pins σ Q) X.xe s
def tOp (r : R2) (ta tb : TE) : TE := fun σ H Q => ta σ H fun x H1 => tb σ H1 fun y H2 => r x y H2 Q
def tUn (r : V → Hp → VK → Prop) (ta : TE) : TE := fun σ H Q => ta σ H fun x H1 => r x H1 Q
/-- ints in, under C, and a value out -/
def rI (C : Int → Int → Prop) (g : Int → Int → V) : R2 := fun x y H Q => ∃ i j, x = .int i ∧ y = .int j ∧ C i j ∧ Q (g i j) H
def rI0 (g : Int → Int → V) : R2 := fun x y H Q => ∃ i j, x = .int i ∧ y = .int j ∧ Q (g i j) H
def rU (g : Int → V) : V → Hp → VK → Prop := fun x H Q => ∃ i, x = .int i ∧ Q (g i) H
section
variable {X : Cx} {a b c : Expr} {ta tb tc : TE} {pos : Pos}
theorem binT (ha : PE X a ta) (hb : PE X b tb) {pins : List (Addr × Obj)} {s : Shared} {σ : St} {H : Hp} {R : V → V → Hp → Prop} (I : Inv X pins σ H s)
    (h : ta σ H fun x H1 => tb σ H1 fun y H2 => R x y H2) {Q : Value → Shared → Prop} {f : Value → Value → Sem Value}
    (hf : ∀ v u s2 x y H2, Inv X pins σ H2 s2 → RelV x v → RelV y u → R x y H2 → wpAny (model X.prog X.w) X.A (f v u) Q X.xe s2) :
    wpAny (model X.prog X.w) X.A (eval a X.env) (fun v s₁ => wpAny (model X.prog X.w) X.A (eval b X.env) (fun u s₂ => wpAny (model X.prog X.w) X.A (f v u) Q X.xe s₂) X.xe s₁) X.xe s := by
  refine thn (ha pins s σ H _ I h) fun v s1 ⟨x, H1, I1, r1, q1⟩ => ?_
  refine thn (hb pins s1 σ H1 _ I1 q1) fun u s2 ⟨y, H2, I2, r2, q2⟩ => ?_
  exact hf v u s2 x y H2 I2 r1 r2 q2
theorem pe_op {op : Operator} {r : R2} (ho : OpR X (binaryOp op) r) (ha : PE X a ta) (hb : PE X b tb) : PE X (.BinOp a op b pos) (tOp r ta tb) := by
  intro pins s σ H Q I h
  exact wpAny_BinOp (binT ha hb I h fun v u s2 x y H2 I2 rx ry q => ho pins s2 σ H2 x y v u Q I2 rx ry q)
theorem pe_un {op : UnaryOp} {r : V → Hp → VK → Prop} (ho : UnR X (unaryOp op) r) (ha : PE X a ta) : PE X (.UnaryOp op a pos) (tUn r ta) := by
  intro pins s σ H Q I h
  exact UnaryOp_ (thn (ha pins s σ H _ I h) fun v s1 ⟨x, H1, I1, r1, q1⟩ => ho pins s1 σ H1 x v Q I1 r1 q1)
/-! ### ints -/
theorem opI {f : Value → Value → Sem Value} {C : Int → Int → Prop} {g : Int → Int → Int}
    (rule : ∀ (i j : Int) (t u : Tok) (s : Shared) (Q : Value → Shared → Prop) (E : Value → Shared → Prop), C i j → Q (.int (g i j) s.toks) { s with toks := s.toks + 1 } → wpAny (model X.prog X.w) X.A (f (.int i t) (.int j u)) Q E s) :
    OpR X f (rI C fun i j => .int (g i j)) := by
  intro pins s σ H x y v u Q I rx ry h
  obtain ⟨i, j, rfl, rfl, hc, q⟩ := h
  obtain ⟨t, rfl⟩ := rx
  obtain ⟨t', rfl⟩ := ry
  exact rule i j t t' s _ _ hc ⟨.int (g i j), H, I.tok _, ⟨_, rfl⟩, q⟩
theorem opI0 {f : Value → Value → Sem Value} {g : Int → Int → Int}
    (rule : ∀ (i j : Int) (t u : Tok) (s : Shared) (Q : Value → Shared → Prop) (E : Value → Shared → Prop), Q (.int (g i j) s.toks) { s with toks := s.toks + 1 } → wpAny (model X.prog X.w) X.A (f (.int i t) (.int j u)) Q E s) :
    OpR X f (rI0 fun i j => .int (g i j)) := by
  intro pins s σ H x y v u Q I rx ry h
  obtain ⟨i, j, rfl, rfl, q⟩ := h
  obtain ⟨t, rfl⟩ := rx
  obtain ⟨t', rfl⟩ := ry
  exact rule i j t t' s _ _ ⟨.int (g i j), H, I.tok _, ⟨_, rfl⟩, q⟩
theorem opB0 {f : Value → Value → Sem Value} {g : Int → Int → Bool}
    (rule : ∀ (i j : Int) (t u : Tok) (s : Shared) (Q : Value → Shared → Prop) (E : Value → Shared → Prop), Q (.bool (g i j)) s → wpAny (model X.prog X.w) X.A (f (.int i t) (.int j u)) Q E s) :
    OpR X f (rI0 fun i j => .bl (g i j)) := by
  intro pins s σ H x y v u Q I rx ry h
  obtain ⟨i, j, rfl, rfl, q⟩ := h
  obtain ⟨t, rfl⟩ := rx
  obtain ⟨t', rfl⟩ := ry
  exact rule i j t t' s _ _ ⟨.bl (g i j), H, I, rfl, q⟩
def CDiv (i j : Int) : Prop := 0 < j ∧ j < 1073741824
def CMul (i j : Int) : Prop := (-(2 ^ 64) < i ∧ i < 2 ^ 64) ∨ (-(2 ^ 64) < j ∧ j < 2 ^ 64)
theorem CMul.ok {i j : Int} (h : CMul i j) : IntMulOk i j := by
  rcases h with ⟨h1, h2⟩ | ⟨h1, h2⟩
  · exact .of_left (intBits_le_64 h1 h2)
  · exact .of_right (intBits_le_64 h1 h2)
theorem op_add : OpR X (binaryOp .Add) (rI0 fun i j => .int (i + j)) := opI0 fun _ _ _ _ _ _ _ q => add_int q
theorem op_sub : OpR X (binaryOp .Sub) (rI0 fun i j => .int (i - j)) := opI0 fun _ _ _ _ _ _ _ q => sub_int q
theorem op_mul : OpR X (binaryOp .Mult) (rI CMul fun i j => .int (i * j)) := opI fun _ _ _ _ _ _ _ hc q => mul_int q hc.ok
/-- // by a positive divisor -/
theorem op_fdiv : OpR X (binaryOp .FloorDiv) (rI CDiv fun i j => .int (i / j)) := opI fun i j _ _ _ _ _ hc q => by
  have h1 : (0 : Int) < j := hc.1
  have h2 : j < 1073741824 := hc.2
  exact floordiv_int (by omega) (by rw [Int.fdiv_eq_ediv_of_nonneg i (by omega)]; exact q) (.inl (PyProof.noPylong_small (by omega)))
theorem unI {f : Value → Sem Value} {g : Int → Int}
    (rule : ∀ (i : Int) (t : Tok) (s : Shared) (Q : Value → Shared → Prop) (E : Value → Shared → Prop), Q (.int (g i) s.toks) { s with toks := s.toks + 1 } → wpAny (model X.prog X.w) X.A (f (.int i t)) Q E s) :
    UnR X f (rU fun i => .int (g i)) := by
  intro pins s σ H x v Q I rx h
  obtain ⟨i, rfl, q⟩ := h
  obtain ⟨t, rfl⟩ := rx
  exact rule i t s _ _ ⟨.int (g i), H, I.tok _, ⟨_, rfl⟩, q⟩
theorem un_neg : UnR X (unaryOp .USub) (rU fun i => .int (-i)) := unI fun _ _ _ _ _ q => neg_int q
/-! ### bools among ints: n += (a < b) -/
end
/-! ### comparisons -/
/-- the scalars that == tells apart as data does -/
def scal : V → V → Bool
  | .non, .non => true | .non, .int _ => true | .int _, .non => true | .non, .bl _ => true | .bl _, .non => true | .non, .str _ => true | .str _, .non => true
  | .int _, .int _ => true | .bl _, .bl _ => true | .str _, .str _ => true | .byt _, .byt _ => true
  | .int _, .str _ => true | .str _, .int _ => true | .bl _, .str _ => true | .str _, .bl _ => true
  | _, _ => false
def rEq : R2 := fun x y H Q => scal x y = true ∧ Q (.bl (decide (x = y))) H
def rNe : R2 := fun x y H Q => scal x y = true ∧ Q (.bl (!decide (x = y))) H
theorem dec_int {i j : Int} : decide (V.int i = V.int j) = (i == j) := by
  rw [Bool.eq_iff_iff]
  simp
theorem dec_bl {i j : Bool} : decide (V.bl i = V.bl j) = (i == j) := by
  rw [Bool.eq_iff_iff]
  simp
theorem dec_str {i j : Str} : decide (V.str i = V.str j) = (i == j) := by
  rw [Bool.eq_iff_iff]
  simp
theorem dec_byt {i j : Array UInt8} : decide (V.byt i = V.byt j) = (i.toList == j.toList) := by
  rw [Bool.eq_iff_iff]
  cases i
  cases j
  simp
section
variable {X : Cx} {a b c : Expr} {ta tb tc : TE} {pos : Pos}
theorem fin_bl {pins : List (Addr × Obj)} {σ : St} {H : Hp} {s : Shared} {Q : VK} {k k' : Bool} (I : Inv X pins σ H s) (q : Q (.bl k) H) (e : k = k') : EP X pins σ Q (.bool k') s := by
  subst e
  exact ⟨.bl k, H, I, rfl, q⟩
theorem op_eq : OpR X (compareOp .Eq) rEq := by
  intro pins s σ H x y v u Q I rx ry h
  obtain ⟨hs, q⟩ := h
  cases x with
  | non =>
    cases rx
    cases y with
    | non => cases ry; exact PySem.EqNone.eq_none_none (fin_bl I q (by simp))
    | bl j => cases ry; exact PySem.EqNone.eq_none_bool (fin_bl I q (by simp))
    | int j => obtain ⟨t', rfl⟩ := ry; exact PySem.EqNone.eq_none_int (fin_bl I q (by simp))
    | str j => obtain ⟨t', rfl⟩ := ry; exact PySem.EqNone.eq_none_str (fin_bl I q (by simp))
    | _ => exact absurd (show false = true from hs) Bool.false_ne_true
  | bl i =>
    cases rx
    cases y with
    | non => cases ry; exact PySem.EqNone.eq_bool_none (fin_bl I q (by simp))
    | bl j => cases ry; exact eq_bool (fin_bl I q dec_bl)
    | str j => obtain ⟨t', rfl⟩ := ry; exact PySem.EqMixed.eq_bool_str (fin_bl I q (by simp))
    | _ => exact absurd (show false = true from hs) Bool.false_ne_true
  | int i =>
    obtain ⟨t, rfl⟩ := rx
    cases y with
    | non => cases ry; exact PySem.EqNone.eq_int_none (fin_bl I q (by simp))
    | int j => obtain ⟨t', rfl⟩ := ry; exact eq_int (fin_bl I q dec_int)
    | str j => obtain ⟨t', rfl⟩ := ry; exact PySem.EqMixed.eq_int_str (fin_bl I q (by simp))
    | _ => exact absurd (show false = true from hs) Bool.false_ne_true
  | str i =>
    obtain ⟨t, rfl⟩ := rx
    cases y with
    | non => cases ry; exact PySem.EqNone.eq_str_none (fin_bl I q (by simp))
    | bl j => cases ry; exact PySem.EqMixed.eq_str_bool (fin_bl I q (by simp))
    | int j => obtain ⟨t', rfl⟩ := ry; exact PySem.EqMixed.eq_str_int (fin_bl I q (by simp))
    | str j => obtain ⟨t', rfl⟩ := ry; exact eq_str (fin_bl I q dec_str)
    | _ => exact absurd (show false = true from hs) Bool.false_ne_true
  | byt i =>
    obtain ⟨t, rfl⟩ := rx
    cases y with
    | byt j => obtain ⟨t', rfl⟩ := ry; exact PySem.W.eq_bytes (fin_bl I q dec_byt)
    | _ => exact absurd (show false = true from hs) Bool.false_ne_true
  | _ => cases y <;> exact absurd (show false = true from hs) Bool.false_ne_true
theorem op_ne : OpR X (compareOp .NotEq) rNe := by
  intro pins s σ H x y v u Q I rx ry h
  obtain ⟨hs, q⟩ := h
  cases x with
  | non =>
    cases rx
    cases y with
    | non => cases ry; exact PySem.EqNone.ne_none_none (fin_bl I q (by simp))
    | bl j => cases ry; exact PySem.EqNone.ne_none_bool (fin_bl I q (by simp))
    | int j => obtain ⟨t', rfl⟩ := ry; exact PySem.EqNone.ne_none_int (fin_bl I q (by simp))
    | str j => obtain ⟨t', rfl⟩ := ry; exact PySem.EqNone.ne_none_str (fin_bl I q (by simp))
    | _ => exact absurd (show false = true from hs) Bool.false_ne_true
  | bl i =>
    cases rx
    cases y with
    | non => cases ry; exact PySem.EqNone.ne_bool_none (fin_bl I q (by simp))
    | bl j => cases ry; exact ne_bool (fin_bl I q (congrArg not dec_bl))
    | str j => obtain ⟨t', rfl⟩ := ry; exact PySem.EqMixed.ne_bool_str (fin_bl I q (by simp))
    | _ => exact absurd (show false = true from hs) Bool.false_ne_true
  | int i =>
    obtain ⟨t, rfl⟩ := rx
    cases y with
    | non => cases ry; exact PySem.EqNone.ne_int_none (fin_bl I q (by simp))
    | int j => obtain ⟨t', rfl⟩ := ry; exact ne_int (fin_bl I q (congrArg not dec_int))
    | str j => obtain ⟨t', rfl⟩ := ry; exact PySem.EqMixed.ne_int_str (fin_bl I q (by simp))
    | _ => exact absurd (show false = true from hs) Bool.false_ne_true
  | str i =>
    obtain ⟨t, rfl⟩ := rx
    cases y with
    | non => cases ry; exact PySem.EqNone.ne_str_none (fin_bl I q (by simp))
    | bl j => cases ry; exact PySem.EqMixed.ne_str_bool (fin_bl I q (by simp))
    | int j => obtain ⟨t', rfl⟩ := ry; exact PySem.EqMixed.ne_str_int (fin_bl I q (by simp))
    | str j => obtain ⟨t', rfl⟩ := ry; exact ne_str (fin_bl I q (congrArg not dec_str))
    | _ => exact absurd (show false = true from hs) Bool.false_ne_true
  | byt i =>
    obtain ⟨t, rfl⟩ := rx
    cases y with
    | byt j => obtain ⟨t', rfl⟩ := ry; exact PySem.W.ne_bytes (fin_bl I q (congrArg not dec_byt))
    | _ => exact absurd (show false = true from hs) Bool.false_ne_true
  | _ => cases y <;> exact absurd (show false = true from hs) Bool.false_ne_true
theorem op_lt : OpR X (compareOp .Lt) (rI0 fun i j => .bl (decide (i < j))) := opB0 fun _ _ _ _ _ _ _ q => lt_int q
theorem op_le : OpR X (compareOp .LtE) (rI0 fun i j => .bl (decide (i ≤ j))) := opB0 fun _ _ _ _ _ _ _ q => le_int q
theorem op_gt : OpR X (compareOp .Gt) (rI0 fun i j => .bl (decide (j < i))) := opB0 fun _ _ _ _ _ _ _ q => gt_int q
theorem op_ge : OpR X (compareOp .GtE) (rI0 fun i j => .bl (decide (j ≤ i))) := opB0 fun _ _ _ _ _ _ _ q => ge_int q
theorem nomark (b : Expr) {op : CmpOp} (h : op ≠ .In := by decide) (h2 : op ≠ .NotIn := by decide) : behindInMarks op b = false := by
  have e1 : (op == CmpOp.In) = false := by cases op <;> first | rfl | exact absurd rfl h
  have e2 : (op == CmpOp.NotIn) = false := by cases op <;> first | rfl | exact absurd rfl h2
  cases b <;> simp [behindInMarks, e1, e2]
/-- a comparison as a value; hm: nomark b, or (for in, not in) by with_unfolding_all rfl -/
theorem pe_cmpR {op : CmpOp} {r : R2} (ho : OpR X (compareOp op) r) (ha : PE X a ta) (hb : PE X b tb) (hm : behindInMarks op b = false) : PE X (.Compare a [op] [b] pos) (tOp r ta tb) := by
  intro pins s σ H Q I h
  exact wpAny_Compare1 (binT ha hb I h fun v u s2 x y H2 I2 rx ry q => ho pins s2 σ H2 x y v u Q I2 rx ry q) hm
/-- a reading of a value as a test -/
def tTest (t : TE) : TT := fun σ H Q => t σ H fun x H' => ∃ k, x = .bl k ∧ Q k H'
theorem pt_cmpR {op : CmpOp} {r : R2} (ho : OpR X (compareOp op) r) (ha : PE X a ta) (hb : PE X b tb) (hm : behindInMarks op b = false) : PT X (.Compare a [op] [b] pos) (tTest (tOp r ta tb)) := by
  intro pins s σ H Q I h
  refine wpAny_isTrue_Compare1 (thn (ha pins s σ H _ I h) fun v s1 ⟨x, H1, I1, r1, q1⟩ => thn (hb pins s1 σ H1 _ I1 q1) fun u s2 ⟨y, H2, I2, r2, q2⟩ =>
    thn (ho pins s2 σ H2 x y v u _ I2 r1 r2 q2) fun c s3 ⟨z, H3, I3, r3, k, e, q3⟩ => ?_) hm
  subst e
  cases r3
  exact wpAny_truthy_bool ⟨H3, I3, q3⟩
/-- a op1 b op2 c -/
def tChain (r r' : R2) (ta tb tc : TE) : TE := fun σ H Q => ta σ H fun x H1 => tb σ H1 fun y H2 => r x y H2 fun z H3 => ∃ k, z = .bl k ∧
  (if k = true then tc σ H3 fun w' H4 => r' y w' H4 Q else Q (.bl false) H3)
theorem pe_chain {op op' : CmpOp} {r r' : R2} (ho : OpR X (compareOp op) r) (ho' : OpR X (compareOp op') r') (ha : PE X a ta) (hb : PE X b tb) (hc : PE X c tc)
    (hm : lastMarks [op, op'] [b, c] = false := by with_unfolding_all rfl) : PE X (.Compare a [op, op'] [b, c] pos) (tChain r r' ta tb tc) := by
  intro pins s σ H Q I h
  refine Compare_chain (thn (ha pins s σ H _ I h) fun v s1 ⟨x, H1, I1, r1, q1⟩ => chain_link (thn (hb pins s1 σ H1 _ I1 q1) fun u s2 ⟨y, H2, I2, r2, q2⟩ =>
    thn (ho pins s2 σ H2 x y v u _ I2 r1 r2 q2) fun d s3 ⟨z, H3, I3, r3, k, e, q3⟩ => ?_)) hm
  subst e
  cases r3
  refine wpAny_truthy_bool ?_
  cases k with
  | false => exact ite_ff ⟨.bl false, H3, I3, rfl, q3⟩
  | true => exact ite_tt (chain_last (thn (hc pins s3 σ H3 _ I3 q3) fun w' s4 ⟨z', H4, I4, r4, q4⟩ => ho' pins s4 σ H4 y z' u w' Q I4 r2 r4 q4))
theorem pt_chain {op op' : CmpOp} {r r' : R2} (ho : OpR X (compareOp op) r) (ho' : OpR X (compareOp op') r') (ha : PE X a ta) (hb : PE X b tb) (hc : PE X c tc)
    (hm : lastMarks [op, op'] [b, c] = false := by with_unfolding_all rfl) : PT X (.Compare a [op, op'] [b, c] pos) (tTest (tChain r r' ta tb tc)) := by
  intro pins s σ H Q I h
  refine isTrue_chain (thn (ha pins s σ H _ I h) fun v s1 ⟨x, H1, I1, r1, q1⟩ => test_link (thn (hb pins s1 σ H1 _ I1 q1) fun u s2 ⟨y, H2, I2, r2, q2⟩ =>
    thn (ho pins s2 σ H2 x y v u _ I2 r1 r2 q2) fun d s3 ⟨z, H3, I3, r3, k, e, q3⟩ => ?_)) hm
  subst e
  cases r3
  refine wpAny_truthy_bool ?_
  cases k with
  | false =>
    obtain ⟨k', e', q'⟩ := q3
    cases e'
    exact ite_ff ⟨H3, I3, q'⟩
  | true =>
    refine ite_tt (test_last (thn (hc pins s3 σ H3 _ I3 q3) fun w' s4 ⟨z', H4, I4, r4, q4⟩ => thn (ho' pins s4 σ H4 y z' u w' _ I4 r2 r4 q4) fun d' s5 ⟨z2, H5, I5, r5, k2, e2, q5⟩ => ?_))
    subst e2
    cases r5
    exact wpAny_truthy_bool ⟨H5, I5, q5⟩
/-! ### truth -/
/-- a value's truth by the abstract heap -/
def TruV (K : PySem.W.Frag) (x : V) (H : Hp) (k : Bool) : Prop :=
  match x with
  | .non => k = false
  | .bl b => k = b
  | .int i => k = (i != 0)
  | .str y => y.length ≤ sizeLine ∧ k = ((y.length : Int) != 0)
  | .byt y => y.size ≤ sizeLine ∧ k = ((y.size : Int) != 0)
  | .ref p => (∃ xs, SqL K H p xs ∧ k = !xs.isEmpty) ∨ (∃ xs, SqT K H p xs ∧ k = !xs.isEmpty) ∨ ∃ kvs, H p = some (.dK kvs) ∧ k = !kvs.isEmpty
  | _ => False
theorem isEmpty_kv {κ : Type} {kvs : List (κ × V)} {vs : List (κ × Value)} (r : KV kvs vs) : (!vs.isEmpty) = !kvs.isEmpty := by
  cases r <;> rfl
theorem isEmpty_of {xs : List V} {its : List Value} (r : Vals xs its) : (!its.toArray.isEmpty) = !xs.isEmpty := by
  cases r <;> simp
theorem line63 : (sizeLine : Nat) < 2 ^ 63 := by rw [sizeLine_eq]; decide
theorem tru_ok : TruR X (fun x H Q => ∃ k, TruV X.K x H k ∧ Q k H) := by
  intro pins s σ H x v Q I rx h
  obtain ⟨k, e, q⟩ := h
  have hl := line63
  have hs : sizeLine = 16777216 := sizeLine_eq
  cases x with
  | non =>
    cases rx
    have e' : k = false := e
    subst e'
    exact truthy_none ⟨H, I, q⟩
  | bl b =>
    cases rx
    have e' : k = b := e
    subst e'
    exact wpAny_truthy_bool ⟨H, I, q⟩
  | int i =>
    obtain ⟨t, rfl⟩ := rx
    have e' : k = (i != 0) := e
    subst e'
    exact PySem.P.truthy_int ⟨H, I, q⟩
  | str y =>
    obtain ⟨t, rfl⟩ := rx
    obtain ⟨hy, e'⟩ : y.length ≤ sizeLine ∧ k = ((y.length : Int) != 0) := e
    subst e'
    exact PySem.P.truthy_str (by omega) ⟨H, I.tok _, q⟩
  | byt y =>
    obtain ⟨t, rfl⟩ := rx
    obtain ⟨hy, e'⟩ : y.size ≤ sizeLine ∧ k = ((y.size : Int) != 0) := e
    subst e'
    exact PySem.W.truthy_bytes (by omega) ⟨H, I.tok _, q⟩
  | ref p =>
    cases rx
    have e' : (∃ xs, SqL X.K H p xs ∧ k = !xs.isEmpty) ∨ (∃ xs, SqT X.K H p xs ∧ k = !xs.isEmpty) ∨ ∃ kvs, H p = some (.dK kvs) ∧ k = !kvs.isEmpty := e
    rcases e' with ⟨xs, hx, e'⟩ | ⟨xs, hx, e'⟩ | ⟨kvs, hx, e'⟩
    · subst e'
      obtain ⟨its, r, pl, hz⟩ := I.list hx
      have hlen := r.length
      exact wpAny_truthy_list pl.isList (by simp only [List.size_toArray]; omega) ⟨H, I.tok _, by rw [isEmpty_of r]; exact q⟩
    · subst e'
      obtain ⟨its, r, pl, hz⟩ := I.tuple hx
      have hlen := r.length
      exact truthy_tuple pl (by simp only [List.size_toArray]; omega) ⟨H, I.tok _, by rw [isEmpty_of r]; exact q⟩
    · subst e'
      obtain ⟨hz, hS, vs, r, m⟩ : kvs.length ≤ sizeLine ∧ (p == sysModules) = false ∧ ∃ vs, KV kvs vs ∧ s.heap.DictOf (mixKind X.prog X.w) p vs := I.hok p _ hx
      have hlen : kvs.length = vs.length := Paired.length r
      exact wpAny_truthy_dict hS m (by omega) ⟨H, I.tok _, by rw [isEmpty_kv r]; exact q⟩
  | _ => exact (show False from e).elim
/-- any expression whose test is its value's truth (a name, a call, a subscript, a field ..: he by fun _ => rfl) -/
theorem pt_truth (ha : PE X a ta) (he : ∀ whole, isTrue a X.env whole = (do let v ← whole; standAt a.pos; holding [v] (truthy v))) :
    PT X a (fun σ H Q => ta σ H fun x H' => ∃ k, TruV X.K x H' k ∧ Q k H') := by
  intro pins s σ H Q I h
  exact isTrue_plain (thn (ha pins s σ H _ I h) fun v s1 ⟨x, H1, I1, r1, q1⟩ => tru_ok pins s1 σ H1 x v Q I1 r1 q1) (he _)
/-! ### strs and bytes -/
/-! ### scalar builtins, by CallR -/
theorem vals1 {x : V} {us : List Value} (r : Vals [x] us) : ∃ u, us = [u] ∧ RelV x u := by
  cases r with
  | cons r1 r2 => cases r2; exact ⟨_, rfl, r1⟩
end
end L2
namespace L2
open PySem PySem.Spec PyProof.Rows
/-! ### an instance, its attributes a map -/
structure ObjM (h : Heap) (x dx C : Addr) (mA : Str → Option Value) : Prop where
  obj : h.get? x = some (PySem.W.instObj C dx)
  ns : h.Ns1 dx mA
  ne : dx ≠ x
theorem lookIn_ns {h : Heap} {dx : Addr} {mA : Str → Option Value} (n : h.Ns1 dx mA) : ∃ od, h.get? dx = some od ∧ ∀ name, PySem.W.lookIn name od = some (mA name) := by
  obtain ⟨o, es, ep, ho, hd, hk, _, hm⟩ := n
  refine ⟨o, ho, fun name => ?_⟩
  have e := hm name
  unfold nsFind findBy at e
  rw [← Array.find?_toList] at e
  unfold PySem.W.lookIn
  rw [hd]
  dsimp only
  split
  · rename_i y q
    rw [q] at e
    exact congrArg some e
  · rename_i q
    rw [q] at e
    have a : es.toList.any (·.refKey) = false := by
      rw [List.any_eq_false]
      intro y hy
      obtain ⟨z, t, hkey⟩ := hk y (Array.mem_toList_iff.mp hy)
      simp [DictEntry.refKey, hkey]
    have a' : ¬ es.toList.any (·.refKey) = true := by rw [a]; exact Bool.false_ne_true
    rw [if_neg a']
    exact congrArg some e
theorem ObjM.look {h : Heap} {x dx C : Addr} {mA : Str → Option Value} (I : ObjM h x dx C mA) : ∃ od, PySem.W.InstAt h x (PySem.W.instObj C dx) C (some od) ∧ ∀ name, PySem.W.lookIn name od = some (mA name) :=
  let ⟨od, ho, hl⟩ := lookIn_ns I.ns
  ⟨od, ⟨I.obj, rfl, rfl, ho⟩, hl⟩
section
variable {prog : Program} {w : World} {A : Around} {E : Value → Shared → Prop} {s : Shared} {K : PySem.W.Frag} {x dx C f : Addr} {mA : Str → Option Value} {name : Str} {v : Value}
theorem get_map {expr : Bool} {Q : Value → Shared → Prop} (X : K.In s.heap) (I : ObjM s.heap x dx C mA) (hg : PySem.W.plainGet K C name = true) (hh : PySem.W.hasDictIn K C = true)
    (ha : PySem.W.findIn K (.ref C) name = some none) (hv : mA name = some v) (hv' : PySem.W.handedIn v = true) (h : Q v { s with toks := s.toks + 1 }) :
    wpAny (model prog w) A (getAttr (.ref x) name expr) Q E s := by
  obtain ⟨od, J, hl⟩ := I.look
  exact PySem.W.get_value X J (PySem.W.plainGet_of hg).1 (PySem.W.findObj_own hh ha rfl (by rw [hl, hv])) hv' h
theorem get_meth {pl : Sem Bool} {Q : Value × List Value → Shared → Prop} (X : K.In s.heap) (I : ObjM s.heap x dx C mA) (hg : PySem.W.plainGet K C name = true)
    (hf : PySem.W.findIn K (.ref C) name = some (some (.ref f))) (ht : PySem.W.isFn K (.ref f) = true) (hv : mA name = none) (h : Q (.ref f, [.ref x]) s) :
    wpAny (model prog w) A (getMethod (.ref x) name pl) Q E s := by
  obtain ⟨od, J, hl⟩ := I.look
  exact PySem.W.method_fn X J (PySem.W.plainGet_of hg).1 (PySem.W.plainGet_of hg).2 hf (beq_iff_eq.mp ht) (by show (PySem.W.lookIn name od).map (·.isSome) = some false; rw [hl, hv]; rfl) h
theorem set_map {ns : List Str} {Q : Unit → Shared → Prop} (X : K.In s.heap) (I : ObjM s.heap x dx C mA)
    (hs : PySem.W.findIn K (.ref C) "__setattr__" = some (some (.builtin "object.__setattr__"))) (hp : PySem.W.plainOver K C = true) (ht : PySem.W.takerIn K C name = some none) (hh : PySem.W.hasDictIn K C = true)
    (hw : PySem.Within mA ns) (hsz : ns.length ≤ sizeLine)
    (h : ∀ h', ObjM h' x dx C (fun y => if y = name then some v else mA y) → Heap.SameBut dx s.heap h' → Q () { s with heap := h', toks := s.toks + 2 }) :
    wpAny (model prog w) A (setAttr (.ref x) name v) Q E s := by
  obtain ⟨od, J, hl⟩ := I.look
  refine PySem.W.set_plain X J hs (PySem.W.osa_open (s := { s with toks := s.toks + 1 }) (r := none) X J hp ht fun b => ?_)
  obtain ⟨cd, hc, hd'⟩ := PySem.W.any_some hh
  have hx : s.heap.get? x = some ⟨.ref C, some dx, .plain, #[]⟩ := I.obj
  refine wpAny_bind (wpAny_pure (wpAny_bind (wpAny_bind (wpAny_loadPart hx (wpAny_bind (PySem.W.Looks.here (s := { s with toks := s.toks + 1 }) (PySem.W.looks_clsIn X hc) ?_))))))
  rw [hd']
  refine wpAny_pure (a := some dx) (wpAny_bind (wpAny_pure (wpAny_bind ?_)))
  refine wpAny_nsSet1 (s := { s with toks := s.toks + 1 }) I.ns fun h' hn2 hs2 => ?_
  obtain ⟨oD, esD, epD, hoD, hdD, hcD⟩ := hn2.count (PySem.Within.cons name v hw)
  refine wpAny_bind (wpAny_lookBehind hoD (by rw [hdD]; exact pastItsLine_dict (Nat.le_trans hcD (by rw [List.length_cons]; omega))) ?_)
  exact wpAny_pure (h _ ⟨(hs2.2 _ (Ne.symm I.ne)).trans I.obj, hn2, I.ne⟩ hs2)
/-- C(..): the dict at the heap's end, the instance behind it; then its __init__ -/
theorem make_map {R : Result → Shared → Prop} {vs : List Value} {kw : List (Str × Value)} (X : K.In s.heap) (hm : PySem.W.makesIn K C = true)
    (hi : PySem.W.findIn K (.ref C) "__init__" = some (some (.ref f))) (hf : PySem.W.typeIn K (.ref f) = some (.type "function"))
    (h : codeAny (model prog w) (A.under (.builtin "type.__call__" ⟨.ref C :: vs, kw⟩)) (.call (.ref f) ⟨.ref (s.heap.objs.size + 1) :: vs, kw⟩) (PySem.W.InitBack (s.heap.objs.size + 1) R)
      { s with heap := (s.heap.push PySem.W.emptyDict).push (PySem.W.instObj C s.heap.objs.size) }) :
    codeAny (model prog w) A (.call (.ref C) ⟨vs, kw⟩) R s := by
  obtain ⟨hh, g, d, t, os⟩ := s
  exact PySem.W.make_core (PySem.W.makes_of X hm) (PySem.W.looks_findIn X hi) (fun self => PySem.W.bind_fn X self hf) (.inl rfl) h
end
/-! ### the attributes as a list of pairs -/
def putF (f : Str) (v : V) : List (Str × V) → List (Str × V)
  | [] => [(f, v)]
  | (g, x) :: r => if g = f then (g, v) :: r else (g, x) :: putF f v r
theorem lookup_putF (f g : Str) (v : V) : ∀ fs : List (Str × V), (putF f v fs).lookup g = if g = f then some v else fs.lookup g
  | [] => by
    show List.lookup g [(f, v)] = _
    by_cases h : g = f
    · have hb : (g == f) = true := beq_iff_eq.mpr h
      simp only [List.lookup, hb, if_pos h]
    · have hb : (g == f) = false := beq_eq_false_iff_ne.mpr h
      simp only [List.lookup, hb, if_neg h]
  | (k, x) :: r => by
    have ih := lookup_putF f g v r
    rw [show putF f v ((k, x) :: r) = (if k = f then (k, v) :: r else (k, x) :: putF f v r) from rfl]
    by_cases hk : k = f
    · rw [if_pos hk]
      by_cases h : g = k
      · have hb : (g == k) = true := beq_iff_eq.mpr h
        simp only [List.lookup, hb, if_pos (h.trans hk)]
      · have hb : (g == k) = false := beq_eq_false_iff_ne.mpr h
        simp only [List.lookup, hb, if_neg (fun e : g = f => h (e.trans hk.symm))]
    · rw [if_neg hk]
      by_cases h : g = k
      · have hb : (g == k) = true := beq_iff_eq.mpr h
        simp only [List.lookup, hb, if_neg (fun e : g = f => hk (h.symm.trans e))]
      · have hb : (g == k) = false := beq_eq_false_iff_ne.mpr h
        simp only [List.lookup, hb]
        exact ih
theorem keys_putF (f : Str) (v : V) : ∀ fs : List (Str × V), f ∈ (putF f v fs).map (·.1) ∧ ∀ g, g ∈ fs.map (·.1) → g ∈ (putF f v fs).map (·.1)
  | [] => ⟨by simp [putF], fun g h => by simp at h⟩
  | (k, x) :: r => by
    obtain ⟨i1, i2⟩ := keys_putF f v r
    rw [show putF f v ((k, x) :: r) = (if k = f then (k, v) :: r else (k, x) :: putF f v r) from rfl]
    by_cases hk : k = f
    · rw [if_pos hk]
      subst hk
      exact ⟨by simp, fun g h => by simpa using h⟩
    · rw [if_neg hk]
      refine ⟨?_, fun g h => ?_⟩
      · rw [List.map_cons]
        exact List.mem_cons_of_mem _ i1
      · rw [List.map_cons] at h ⊢
        rcases List.mem_cons.mp h with e | e
        · exact List.mem_cons.mpr (.inl e)
        · exact List.mem_cons_of_mem _ (i2 g e)
theorem length_putF (f : Str) (v : V) : ∀ fs : List (Str × V), (putF f v fs).length ≤ fs.length + 1
  | [] => by simp [putF]
  | (k, x) :: r => by
    have ih := length_putF f v r
    rw [show putF f v ((k, x) :: r) = (if k = f then (k, v) :: r else (k, x) :: putF f v r) from rfl]
    by_cases hk : k = f
    · rw [if_pos hk, List.length_cons, List.length_cons]; omega
    · rw [if_neg hk, List.length_cons, List.length_cons]; omega
theorem RelO.some_of {v : V} {o : Option Value} (r : RelO (some v) o) : ∃ u, o = some u ∧ RelV v u := by
  cases o with
  | none => exact (show False from r).elim
  | some u => exact ⟨u, rfl, r⟩
theorem RelO.none_of {o : Option Value} (r : RelO none o) : o = none := by
  cases o with
  | none => rfl
  | some u => exact (show False from r).elim
theorem handed_of {v : V} {u : Value} (r : RelV v u) : PySem.W.handedIn u = true := by
  cases v with
  | non => cases (show u = Value.none from r); rfl
  | bl b => cases (show u = Value.bool b from r); rfl
  | int i => obtain ⟨t, e⟩ := (show ∃ t, u = Value.int i t from r); cases e; rfl
  | str x => obtain ⟨t, e⟩ := (show ∃ t, u = Value.str x t from r); cases e; rfl
  | byt b => obtain ⟨t, e⟩ := (show ∃ t, u = Value.bytes b t from r); cases e; rfl
  | flt b => obtain ⟨t, e⟩ := (show ∃ t, u = Value.float b t from r); cases e; rfl
  | ref a => cases (show u = Value.ref a from r); rfl
  | ty n => cases (show u = Value.type n from r); rfl
section
variable {P : Program} {w : World} {H H' : Hp} {h h' : Heap} {a C dx : Addr} {fs fs' : List (Str × V)}
theorem ins_get (hok : HOk P w H h) (e : H a = some (.ins C dx fs)) : ∃ mA, ObjM h a dx C mA ∧ (∀ f, RelO (fs.lookup f) (mA f)) ∧ PySem.Within mA (fs.map (·.1)) ∧ fs.length ≤ 1000 ∧ H dx = some (.own a) := by
  obtain ⟨d, z, ne, ob, mA, n, r, q⟩ := (show ObjOk P w H h a (.ins C dx fs) from hok a _ e)
  exact ⟨mA, ⟨ob, n, ne⟩, r, q, z, d⟩
end
/-! ### what of the text a class must have -/
structure Cls (K : PySem.W.Frag) (C : Addr) : Prop where
  pg : PySem.W.plainGet K C Str.empty = true
  hd : PySem.W.hasDictIn K C = true
  po : PySem.W.plainOver K C = true
  sa : PySem.W.findIn K (.ref C) "__setattr__" = some (some (.builtin "object.__setattr__"))
theorem Cls.get {K : PySem.W.Frag} {C : Addr} (c : Cls K C) (f : Str) : PySem.W.plainGet K C f = true := c.pg
/-- no class of it has the name -/
def NoAttr (K : PySem.W.Frag) (C : Addr) (f : Str) : Prop := PySem.W.findIn K (.ref C) f = some none
theorem NoAttr.taker {K : PySem.W.Frag} {C : Addr} {f : Str} (n : NoAttr K C f) : PySem.W.takerIn K C f = some none := by
  unfold PySem.W.takerIn
  rw [show PySem.W.findIn K (.ref C) f = some none from n]
  rfl
/-- a method: a plain def of the class or of one above it -/
structure Meth (K : PySem.W.Frag) (C : Addr) (m : Str) (f : Addr) : Prop where
  at_ : PySem.W.findIn K (.ref C) m = some (some (.ref f))
  fn : PySem.W.isFn K (.ref f) = true
  kp : PySem.W.keepIn K (.ref f) = true
section
variable {X : Cx} {pins : List (Addr × Obj)} {σ : St} {H : Hp} {s : Shared} {a C dx : Addr} {fs : List (Str × V)} {f : Str} {v : V} {A : Around} {E : Value → Shared → Prop}
theorem getattr_ok {b : Bool} {Q : Value → Shared → Prop} (I : Inv X pins σ H s) (e : H a = some (.ins C dx fs)) (c : Cls X.K C) (n : NoAttr X.K C f) (l : fs.lookup f = some v)
    (h : ∀ u s', Inv X pins σ H s' → RelV v u → Q u s') : wpAny (model X.prog X.w) A (getAttr (.ref a) f b) Q E s := by
  obtain ⟨mA, O, r, _, _, _⟩ := ins_get I.hok e
  obtain ⟨u, hu, ru⟩ := RelO.some_of (v := v) (o := mA f) (by rw [← l]; exact r f)
  exact get_map I.kIn O (c.get f) c.hd n hu (handed_of ru) (h u _ (I.tok _) ru)
theorem getmeth_ok {m : Str} {g : Addr} {pl : Sem Bool} {Q : Value × List Value → Shared → Prop} (I : Inv X pins σ H s) (e : H a = some (.ins C dx fs)) (c : Cls X.K C) (k : Meth X.K C m g) (l : fs.lookup m = none)
    (h : Q (.ref g, [.ref a]) s) : wpAny (model X.prog X.w) A (getMethod (.ref a) m pl) Q E s := by
  obtain ⟨mA, O, r, _, _, _⟩ := ins_get I.hok e
  have hn : mA m = none := RelO.none_of (by rw [← l]; exact r m)
  exact get_meth I.kIn O (c.get m) k.at_ k.fn hn h
theorem setattr_ok {y : V} {u : Value} {Q : Unit → Shared → Prop} (I : Inv X pins σ H s) (e : H a = some (.ins C dx fs)) (c : Cls X.K C) (n : NoAttr X.K C f) (hl : fs.length < 1000) (ry : RelV y u)
    (h : ∀ s', Inv X pins σ (upd H a (.ins C dx (putF f y fs))) s' → Q () s') : wpAny (model X.prog X.w) A (setAttr (.ref a) f u) Q E s := by
  obtain ⟨mA, O, r, wi, _, ho⟩ := ins_get I.hok e
  have hz : (fs.map (·.1)).length ≤ sizeLine := by rw [List.length_map, sizeLine_eq]; omega
  refine set_map I.kIn O c.sa c.po n.taker c.hd wi hz fun h' O' sb => h _ ?_
  have hd : ∃ o, h'.get? dx = some o := let ⟨o, _, _, e', _⟩ := O'.ns; ⟨o, e'⟩
  refine I.write (x := a) (e := dx) (by rw [e]; exact True.intro) (.inr ho) (fun b q hb z => (sb.2 b hb).trans z) hd ?_
  refine ⟨by rw [upd_ne O.ne]; exact ho, ?_, O.ne, O'.obj, _, O'.ns, fun g => ?_, fun g hg => ?_⟩
  · have := length_putF f y fs; omega
  · show RelO ((putF f y fs).lookup g) (if g = f then some u else mA g)
    rw [lookup_putF]
    by_cases q : g = f
    · rw [if_pos q, if_pos q]; exact ry
    · rw [if_neg q, if_neg q]; exact r g
  · by_cases q : g = f
    · rw [q]; exact (keys_putF f y fs).1
    · refine (keys_putF f y fs).2 g (wi g fun z => hg ?_)
      show (if g = f then some u else mA g) = none
      rw [if_neg q]; exact z
/-- a new instance, tracked, without attributes -/
theorem Inv.made (I : Inv X pins σ H s) : Inv X pins σ (upd (upd H s.heap.objs.size (.own (s.heap.objs.size + 1))) (s.heap.objs.size + 1) (.ins C s.heap.objs.size []))
    { s with heap := (s.heap.push PySem.W.emptyDict).push (PySem.W.instObj C s.heap.objs.size) } := by
  have e1 : (s.heap.push PySem.W.emptyDict).get? s.heap.objs.size = some PySem.W.emptyDict := Heap.get?_push_size s.heap rfl
  have e2 : ((s.heap.push PySem.W.emptyDict).push (PySem.W.instObj C s.heap.objs.size)).get? (s.heap.objs.size + 1) = some (PySem.W.instObj C s.heap.objs.size) := by
    have := Heap.get?_push_size (s.heap.push PySem.W.emptyDict) (o := PySem.W.instObj C s.heap.objs.size) rfl
    rwa [Heap.size_push] at this
  have e3 : (s.heap.push PySem.W.emptyDict).Ns s.heap.objs.size (fun _ => none) := ⟨PySem.W.emptyDict, #[], _, e1, rfl, (fun e he => absurd he (by simp)), fun _ => rfl⟩
  have I1 := I.laid (a := s.heap.objs.size) (o := .own (s.heap.objs.size + 1)) (h' := s.heap.push PySem.W.emptyDict) (t' := s.toks) (fun b u q => Heap.get?_push_of_some _ q) (Nat.le_refl _) ⟨_, e1⟩
  refine I1.laid (a := s.heap.objs.size + 1) (o := .ins C s.heap.objs.size []) (t' := s.toks) (fun b u q => Heap.get?_push_of_some _ q) (Nat.le_of_eq (Heap.size_push _ _)) ?_
  have ne : s.heap.objs.size ≠ s.heap.objs.size + 1 := Nat.ne_of_lt (Nat.lt_succ_self _)
  refine ⟨by rw [upd_ne ne, upd_same], Nat.zero_le _, ne, e2, fun _ => none, (Heap.Ns1.of_empty e3).at fun o q => Heap.get?_push_of_some _ q, fun _ => True.intro, fun y hy => absurd rfl hy⟩
/-- e.f where nothing but the object is asked: through attributeBase (super) and the last hold -/
theorem attr_of {prog : Program} {w : World} {env : Env} {e : Expr} {f : Str} {pos : Pos} {s : Shared} {Q : Value → Shared → Prop} (hb : attributeBase e f env (eval e env) = eval e env)
    (h : wpAny (model prog w) A (eval e env) (fun o s₁ => wpAny (model prog w) A (getAttr o f true) Q E s₁) E s) : wpAny (model prog w) A (eval (.Attribute e f pos) env) Q E s :=
  Attribute_any_ h (by rw [arm_eval_Attribute, hb])
end
/-! ### readings and rules -/
/-- e.f, an attribute of the instance -/
def tFld (K : PySem.W.Frag) (ta : TE) (f : Str) : TE := fun σ H Q => ta σ H fun x H1 => ∃ a C dx fs v, x = .ref a ∧ H1 a = some (.ins C dx fs) ∧ Cls K C ∧ NoAttr K C f ∧ fs.lookup f = some v ∧ Q v H1
/-- e.f = value -/
def sFld (K : PySem.W.Frag) (ta tv : TE) (f : Str) : TS := fun D σ H => tv σ H fun y H1 => ta σ H1 fun x H2 => ∃ a C dx fs, x = .ref a ∧ H2 a = some (.ins C dx fs) ∧ Cls K C ∧ NoAttr K C f ∧ fs.length < 1000 ∧
  D.nx σ (upd H2 a (.ins C dx (putF f y fs)))
/-- an augmented operator on two values -/
def InOp (X : Cx) (op : Operator) (rd : V → V → Hp → VK → Prop) : Prop :=
  ∀ (pins : List (Addr × Obj)) (s : Shared) (σ : St) (H : Hp) (x y : V) (u v : Value) (Q : VK), Inv X pins σ H s → RelV x u → RelV y v → rd x y H Q → wpAny (model X.prog X.w) X.A (inplaceOp op u v) (EP X pins σ Q) X.xe s
/-- e.f op= value -/
def sFldAug (K : PySem.W.Frag) (ta tv : TE) (rd : V → V → Hp → VK → Prop) (f : Str) : TS := fun D σ H => ta σ H fun x H1 => ∃ a C dx fs v, x = .ref a ∧ H1 a = some (.ins C dx fs) ∧ Cls K C ∧ NoAttr K C f ∧ fs.lookup f = some v ∧
  tv σ H1 fun y H2 => rd v y H2 fun z H3 => ∃ dx' fs', H3 a = some (.ins C dx' fs') ∧ fs'.length < 1000 ∧ D.nx σ (upd H3 a (.ins C dx' (putF f z fs')))
section
variable {X : Cx} {o e value : Expr} {f : Str} {pos pos' tpos : Pos} {ta tv : TE}
theorem pe_fld (he : PE X e ta) (hb : attributeBase e f X.env (eval e X.env) = eval e X.env) : PE X (.Attribute e f pos) (tFld X.K ta f) := by
  intro pins s σ H Q I h
  refine attr_of hb (thn (he pins s σ H _ I h) fun u s1 ⟨x, H1, I1, rx, a, C, dx, fs, v, ex, ea, c, n, l, q⟩ => ?_)
  subst ex
  obtain rfl : u = Value.ref a := rx
  exact getattr_ok I1 ea c n l fun u' s2 I2 ru => ⟨v, H1, I2, ru, q⟩
theorem ps_fld (ha : PE X o ta) (hv : PE X value tv) (hs : swapsWith value (some (.Attribute o f pos')) pos.line X.env = pure false) : PS X (.Assign [.Attribute o f pos'] value pos) (sFld X.K ta tv f) := by
  intro pins s σ H D I h
  refine plainObj_wpAny_Assign_Attribute (thn (hv pins s σ H _ I h) fun u s1 ⟨y, H1, I1, ry, q⟩ => thn (ha pins s1 σ H1 _ I1 q) fun ov s2 ⟨x, H2, I2, rx, a, C, dx, fs, ex, ea, c, n, l, q2⟩ => ?_) hs
  subst ex
  obtain rfl : ov = Value.ref a := rx
  exact setattr_ok I2 ea c n l ry fun s3 I3 => ⟨σ, _, I3, q2⟩
theorem ps_fldaug {op : Operator} {rd : V → V → Hp → VK → Prop} (ha : PE X o ta) (hv : PE X value tv) (hop : InOp X op rd) : PS X (.AugAssign (.Attribute o f tpos) op value pos) (sFldAug X.K ta tv rd f) := by
  intro pins s σ H D I h
  refine wpAny_AugAssign_AttributeAny (thn (ha pins s σ H _ I h) fun ov s1 ⟨x, H1, I1, rx, a, C, dx, fs, v, ex, ea, c, n, l, q⟩ => ?_)
  subst ex
  obtain rfl : ov = Value.ref a := rx
  refine getattr_ok I1 ea c n l fun u s2 I2 ru => thn (hv pins s2 σ H1 _ I2 q) fun w3 s3 ⟨y, H2, I3, ry, q3⟩ => thn (hop pins s3 σ H2 v y u w3 _ I3 ru ry q3) fun w4 s4 ⟨z, H3, I4, rz, dx', fs', ea', l', q4⟩ => ?_
  exact setattr_ok I4 ea' c n l' rz fun s5 I5 => ⟨σ, _, I5, q4⟩
def rAdd : V → V → Hp → VK → Prop := fun x y H Q => ∃ i j, x = .int i ∧ y = .int j ∧ Q (.int (i + j)) H
theorem in_add : InOp X .Add rAdd := by
  rintro pins s σ H x y u v Q I rx ry ⟨i, j, rfl, rfl, q⟩
  obtain ⟨t, rfl⟩ := (show ∃ t, u = Value.int i t from rx)
  obtain ⟨t', rfl⟩ := (show ∃ t', v = Value.int j t' from ry)
  exact PyProof.Rows.iadd_int ⟨.int (i + j), H, I.tok _, ⟨_, rfl⟩, q⟩
end
/-! ### isinstance -/
section
variable {X : Cx} {pins : List (Addr × Obj)} {σ : St} {H : Hp} {s : Shared} {A : Around} {E : Value → Shared → Prop} {Q : Value → Shared → Prop} {c : Value} {b : Bool}
end
end L2
namespace L2
open PySem PySem.Spec PyProof.Rows
/-! ### room -/
structure Room (k : Nat) (A : Around) : Prop where
  hd : A.handled = none
  dp : A.depth + 3 * k + 5 < recursionLimit
  un : A.units + 16 * k + 200 < cLine
theorem Room.mono {j k : Nat} {A : Around} (r : Room k A) (h : j ≤ k) : Room j A := ⟨r.hd, by have := r.dp; omega, by have := r.un; omega⟩
theorem Room.deeper {k : Nat} {A : Around} (r : Room (k + 1) A) (env : Env) : Room k (A.deeper env) :=
  ⟨r.hd, by have := r.dp; show A.depth + 1 + 3 * k + 5 < _; omega, by have := r.un; show A.units + 3 + 16 * k + 200 < _; omega⟩
theorem Room.in1 {k : Nat} {A : Around} (r : Room (k + 1) A) : Room k A.in1 :=
  ⟨r.hd, by have := r.dp; show A.depth + 3 * k + 5 < _; omega, by have := r.un; show A.units + 1 + 16 * k + 200 < _; omega⟩
theorem make_depth {A : Around} {C : Addr} {us : List Value} {kw : List (Str × Value)} : (A.under (.builtin "type.__call__" ⟨.ref C :: us, kw⟩)).depth = A.depth + 1 := by
  first | rfl | simp [Around.under, Code.weight, Code.isCreation, Code.isGuard, Code.isCaller, Code.frames, Code.isFrame, guardIds]
theorem make_units {A : Around} {C : Addr} {us : List Value} {kw : List (Str × Value)} : (A.under (.builtin "type.__call__" ⟨.ref C :: us, kw⟩)).units = A.units + 1 := by
  first | rfl | simp [Around.under, Code.cUnits, Code.frames, Code.isFrame]
theorem Room.make {k : Nat} {A : Around} (r : Room (k + 1) A) (C : Addr) (us : List Value) (kw : List (Str × Value)) : Room k (A.under (.builtin "type.__call__" ⟨.ref C :: us, kw⟩)) :=
  ⟨r.hd, by have := r.dp; rw [make_depth]; omega, by have := r.un; rw [make_units]; omega⟩
theorem Room.depth {k : Nat} {A : Around} (r : Room k A) : A.depth < recursionLimit := by have := r.dp; omega
theorem Room.units {k : Nat} {A : Around} (r : Room k A) : A.units + 64 < cLine := by have := r.un; omega
/-! ### argument lists and displays -/
def tNil : TA := fun _ H Q => Q [] H
def tCons (ta : TE) (tr : TA) : TA := fun σ H Q => ta σ H fun x H1 => tr σ H1 fun xs H2 => Q (x :: xs) H2
section
variable {X : Cx} {e : Expr} {es : List Expr} {te : TE} {t : TA} {pos : Pos}
theorem pa_nil : PA X [] tNil := fun _ _ _ _ H Q I h => Calls.spliced_nil ⟨[], H, I, .nil, h⟩
theorem pa_cons (ha : PE X e te) (hr : PA X es t) (hs : starEach (e :: es) X.env = (false, eval e X.env) :: starEach es X.env := by rfl) : PA X (e :: es) (tCons te t) := by
  intro pos pins s σ H Q I h
  rw [hs]
  show wpAny _ _ (spliced ((false, eval e X.env) :: backTo pos (starEach es X.env))) _ _ s
  refine Calls.spliced_cons (thn (ha pins s σ H _ I h) fun u s1 ⟨x, H1, I1, r1, q1⟩ => ?_)
  exact thn (hr pos pins s1 σ H1 _ I1 q1) fun us s2 ⟨xs, H2, I2, r2, q2⟩ => ⟨x :: xs, H2, I2, .cons r1 r2, q2⟩
/-- a tuple, a list of written items -/
def tTup (t : TA) : TE := fun σ H Q => t σ H fun xs H1 => xs.length ≤ sizeLine ∧ ∀ p, H1 p = none → Q (.ref p) (upd H1 p (.tup xs))
def tLst (t : TA) : TE := fun σ H Q => t σ H fun xs H1 => xs.length ≤ sizeLine ∧ ∀ p, H1 p = none → Q (.ref p) (upd H1 p (.lst xs))
theorem pe_tup {x1} (h : PA X es t) : PE X (.Tuple es x1 pos) (tTup t) := by
  intro pins s σ H Q I hq
  refine wpAny_Tuple_spliced (thn (h pos pins s σ H _ I hq) fun us s1 ⟨xs, H1, I1, r, z, q⟩ => ⟨by rw [← r.length]; exact z, ?_⟩)
  have hf : H1 s1.heap.objs.size = none := I1.hok.fresh (Nat.le_refl _)
  refine ⟨.ref s1.heap.objs.size, upd H1 s1.heap.objs.size (.tup xs), I1.laid (t' := s1.toks) (fun b u e => Heap.get?_push_of_some _ e) (Nat.le_refl _) ?_, rfl, q _ hf⟩
  exact ⟨z, us, r, ⟨_, Heap.get?_push_size _ rfl, rfl, _, rfl⟩⟩
theorem pe_lst (h : PA X es t) : PE X (.List es pos) (tLst t) := by
  intro pins s σ H Q I hq
  refine wpAny_List_spliced (thn (h pos pins s σ H _ I hq) fun us s1 ⟨xs, H1, I1, r, z, q⟩ => ⟨by rw [← r.length]; exact z, ?_⟩)
  have hf : H1 s1.heap.objs.size = none := I1.hok.fresh (Nat.le_refl _)
  refine ⟨.ref s1.heap.objs.size, upd H1 s1.heap.objs.size (.lst xs), I1.laid (t' := s1.toks) (fun b u e => Heap.get?_push_of_some _ e) (Nat.le_refl _) ?_, rfl, q _ hf⟩
  exact ⟨z, us, 0, r, Heap.get?_push_size _ rfl⟩
end
/-! ### what a def promises -/
/-- a def's promise: the bound arguments in the parameters' order, the heap, the wanted end, the wanted exception -/
abbrev Sp := List V → Hp → VK → XK → Prop
/-- how an exception lies behind a call (file 08 gives it): the callers' frames, abstract heap and state ahead of the call, the wish, the exception, the state -/
abbrev CXT := List Env → Hp → Shared → XK → Value → Shared → Prop
/-- the state at a call -/
structure Env0 (P : Program) (w : World) (K : PySem.W.Frag) (mg : Str → Option Value) (base : Heap) (A : Around) (outer : List Env) (s : Shared) (H : Hp) : Prop where
  frames : A.frames = some outer
  mod : Mod K mg base
  bs : ∀ b o, base.get? b = some o → s.heap.get? b = some o ∧ H b = none
  bsz : base.objs.size ≤ s.heap.objs.size
  funs : s.heap.FunFrames base outer
  frf : ∀ b ∈ frs outer, H b = none
  hok : HOk P w H s.heap
  bare : AllBare s.gens
/-- a call's end -/
def CE (outer : List Env) (P : Program) (w : World) (H : Hp) (s : Shared) (Q : VK) (u : Value) (s' : Shared) : Prop :=
  ∃ v H', s'.os = s.os ∧ AllBare s'.gens ∧ Un (frs outer) [] H H' s.heap s'.heap ∧ HOk P w H' s'.heap ∧ RelV v u ∧ Q v H'
def CR (CX : CXT) (outer : List Env) (P : Program) (w : World) (H : Hp) (s : Shared) (Q : VK) (E : XK) (r : Result) (s' : Shared) : Prop :=
  match r with
  | .ok (.ret u) => CE outer P w H s Q u s'
  | .ok _ => False
  | .error e => CX outer H s E e s'
structure FnOk (P : Program) (w : World) (K : PySem.W.Frag) (mg : Str → Option Value) (base : Heap) (CX : CXT) (k : Nat) (f : Addr) (fd : FuncData) (ps : List Str) (sp : Sp) : Prop where
  len : ∀ vs H Q E, sp vs H Q E → vs.length = ps.length
  run : ∀ (A : Around) (outer : List Env) (s : Shared) (H : Hp) (args : Args) (us : List Value) (vs : List V) (Q : VK) (E : XK), Room k A → Env0 P w K mg base A outer s H → BindsTo s fd args (ps.zip us) → Vals vs us → sp vs H Q E →
    codeAny (model P w) A (.call (.ref f) args) (CR CX outer P w H s Q E) s
theorem Env0.make {P : Program} {w : World} {K : PySem.W.Frag} {mg : Str → Option Value} {base : Heap} {A : Around} {outer : List Env} {s : Shared} {H : Hp} (e : Env0 P w K mg base A outer s H) (C : Addr) (us : List Value) (kw : List (Str × Value)) :
    Env0 P w K mg base (A.under (.builtin "type.__call__" ⟨.ref C :: us, kw⟩)) outer s H := ⟨by first | exact e.frames | (simpa [Around.under, Code.envs, Code.isFrame, pushEnvs] using e.frames), e.mod, e.bs, e.bsz, e.funs, e.frf, e.hok, e.bare⟩
theorem Env0.in1 {P : Program} {w : World} {K : PySem.W.Frag} {mg : Str → Option Value} {base : Heap} {A : Around} {outer : List Env} {s : Shared} {H : Hp} (e : Env0 P w K mg base A outer s H) :
    Env0 P w K mg base A.in1 outer s H := ⟨e.frames, e.mod, e.bs, e.bsz, e.funs, e.frf, e.hok, e.bare⟩
section
variable {X : Cx} {pins : List (Addr × Obj)} {σ : St} {H : Hp} {s s' : Shared}
/-- from a body: what a callee wants -/
theorem Inv.env0 (I : Inv X pins σ H s) : Env0 X.prog X.w X.K X.mg X.base X.A X.stack s H :=
  ⟨I.ok.frames, I.ok.mod, I.bs, Nat.le_trans I.ok.bsz I.sz, I.stack, I.stkFree, I.hok, I.bare⟩
/-- behind a call -/
theorem Inv.after {Q : VK} {u : Value} (I : Inv X pins σ H s) (h : CE X.stack X.prog X.w H s Q u s') : EP X pins σ Q u s' := by
  obtain ⟨v, H', os, bare, un, hok, r, q⟩ := h
  obtain ⟨hh, g, d, t, os'⟩ := s'
  obtain rfl : os' = s.os := os
  exact ⟨v, H', I.call (h' := hh) (g' := g) (d' := d) (t' := t) (ch := []) un hok bare (fun b z => absurd z (by simp)), r, q⟩
end
/-! ### calls -/
/-- f(..): the written arguments, then the defaults dvs; E: what is wanted of an exception -/
def tCall (sp : Sp) (dvs : List V) (E : XK) (t : TA) : TE := fun σ H Q => t σ H fun vs H1 => sp (vs ++ dvs) H1 Q E
/-- o.m(..) of an instance of the class at C -/
def tMeth (C : Addr) (m : Str) (sp : Sp) (dvs : List V) (E : XK) (ta : TE) (t : TA) : TE := fun σ H Q => ta σ H fun x H1 => ∃ a dx fs, x = .ref a ∧ H1 a = some (.ins C dx fs) ∧ fs.lookup m = none ∧
  t σ H1 fun vs H2 => sp (x :: (vs ++ dvs)) H2 Q E
/-- C(..): a new instance and its dict, then __init__ -/
def tMake (C : Addr) (sp : Sp) (dvs : List V) (E : XK) (t : TA) : TE := fun σ H Q => t σ H fun vs H1 => ∀ x dx, H1 x = none → H1 dx = none → dx ≠ x →
  sp (.ref x :: (vs ++ dvs)) (upd (upd H1 dx (.own x)) x (.ins C dx [])) (fun v H2 => v = .non ∧ Q (.ref x) H2) E
/-- how the parameters are bound: us the positional arguments, kw the keywords' values by name, ds the defaults that fill up -/
def Binds (K : PySem.W.Frag) (fd : FuncData) (ps : List Str) (ds : List Value) : Prop :=
  ∀ (s : Shared) (us : List Value), K.In s.heap → (us ++ ds).length = ps.length → BindsTo s fd ⟨us, []⟩ (ps.zip (us ++ ds))
/-- every parameter is given -/
theorem Binds.all {K : PySem.W.Frag} {fd : FuncData} {ps : List Str} (h : ∀ us : List Value, us.length = ps.length → bindArgs fd ⟨us, []⟩ = pure (ps.zip us)) : Binds K fd ps [] := fun s us _ hl => by
  rw [List.append_nil] at hl ⊢
  exact .of_eq (h us hl)
/-- an exception of a callee reaches what this body wants of exceptions -/
def Passes (CX : CXT) (X : Cx) (E : XK) : Prop := ∀ (pins : List (Addr × Obj)) (σ : St) (H : Hp) (s : Shared) (e : Value) (s' : Shared), Inv X pins σ H s → CX X.stack H s E e s' → X.xe e s'
section
variable {X : Cx} {CX : CXT} {k : Nat} {f C : Addr} {fd : FuncData} {ps : List Str} {sp : Sp} {dvs : List V} {ds : List Value} {E : XK} {x m : Str} {p pos apos : Pos} {e o : Expr} {es : List Expr} {ta : TE} {t : TA}
/-- the callee runs -/
theorem run_fn {pins : List (Addr × Obj)} {σ : St} {H : Hp} {s : Shared} {Q : VK} {us : List Value} {vs : List V} (F : FnOk X.prog X.w X.K X.mg X.base CX k f fd ps sp) (hr : Room k X.A) (hb : Binds X.K fd ps ds) (hd : Vals dvs ds) (hx : Passes CX X E)
    (I : Inv X pins σ H s) (r : Vals vs us) (h : sp (vs ++ dvs) H Q E) : wpAny (model X.prog X.w) X.A (call (.ref f) us) (EP X pins σ Q) X.xe s := by
  have r2 : Vals (vs ++ dvs) (us ++ ds) := r.append hd
  have hl : (us ++ ds).length = ps.length := by rw [← r2.length]; exact F.len _ _ _ _ h
  refine wpAny_call (codeAny_mono (F.run X.A X.stack s H ⟨us, []⟩ (us ++ ds) (vs ++ dvs) Q E hr I.env0 (hb s us I.kIn hl) r2 h) fun r s' hq => ?_)
  cases r with
  | error e => exact hx pins σ H s e s' I hq
  | ok fl =>
    cases fl with
    | ret u => exact I.after hq
    | next => exact False.elim hq
    | brk => exact False.elim hq
    | cont => exact False.elim hq
theorem pe_call (F : FnOk X.prog X.w X.K X.mg X.base CX k f fd ps sp) (hr : Room k X.A) (hg : Gl X x) (hm : X.mg x = some (.ref f)) (hk : PySem.W.keepIn X.K (.ref f) = true) (hb : Binds X.K fd ps ds) (hd : Vals dvs ds) (hx : Passes CX X E)
    (ha : PA X (e :: es) t) (hdb : (x == ("__debug__" : Str)) = false := by decide) (he : starEach (e :: es) X.env = (false, eval e X.env) :: starEach es X.env := by rfl) (hpl : (backTo pos (starEach es X.env)).any (·.1) = false := by rfl) :
    PE X (.Call (.Name x p) (e :: es) [] pos) (tCall sp dvs E t) := by
  intro pins s σ H Q I h
  refine wpAny_Call_Name_kw (ld_glob I hg hm ?_ hdb)
  refine PySem.W.callWith_K (h₀ := X.base) I.ok.mod.kin hk (thn (ha pos pins s σ H _ I h) fun us s1 ⟨vs, H1, I1, r, q⟩ => ⟨I1.kIn, ?_⟩) he hpl
  exact run_fn F hr hb hd hx I1 r q
/-- o.m(e, ..) -/
theorem pe_meth {pl : Sem Bool} (he : PE X o ta) (c : Cls X.K C) (hm : Meth X.K C m f) (F : FnOk X.prog X.w X.K X.mg X.base CX k f fd ps sp) (hr : Room k X.A) (hb : Binds X.K fd ps ds) (hd : Vals dvs ds) (hx : Passes CX X E) (ha : PA X (e :: es) t)
    (hst : starEach (e :: es) X.env = (false, eval e X.env) :: starEach es X.env := by rfl) (hpl : (backTo pos (starEach es X.env)).any (·.1) = false := by rfl)
    (ht : eval (.Call (.Attribute o m apos) (e :: es) [] pos) X.env = (do
      let ov ← eval o X.env
      standAt apos.atName
      let (f, first) ← holding [ov] (getMethod ov m pl)
      callWith pos f first (backTo pos (starEach (e :: es) X.env)) (backToKw pos (keywordEach [] X.env))) := by rfl) :
    PE X (.Call (.Attribute o m apos) (e :: es) [] pos) (tMeth C m sp dvs E ta t) := by
  intro pins s σ H Q I h
  refine PySem.W.methodCall_KW (pl := pl) (thn (he pins s σ H _ I h) fun u s1 ⟨x, H1, I1, rx, a, dx, fs, ex, ea, l, q⟩ => ?_) ht
  subst ex
  obtain rfl : u = Value.ref a := rx
  refine getmeth_ok I1 ea c hm l ?_
  refine PySem.W.callWith_K (first := [.ref a]) (h₀ := X.base) I.ok.mod.kin hm.kp (thn (ha pos pins s1 σ H1 _ I1 q) fun us s2 ⟨vs, H2, I2, r, q2⟩ => ⟨I2.kIn, ?_⟩) hst hpl
  exact run_fn (us := .ref a :: us) (vs := .ref a :: vs) F hr hb hd hx I2 (.cons rfl r) q2
/-- o.m() -/
theorem pe_meth0 {pl : Sem Bool} (he : PE X o ta) (c : Cls X.K C) (hm : Meth X.K C m f) (F : FnOk X.prog X.w X.K X.mg X.base CX k f fd ps sp) (hr : Room k X.A) (hb : Binds X.K fd ps ds) (hd : Vals dvs ds) (hx : Passes CX X E)
    (ht : eval (.Call (.Attribute o m apos) [] [] pos) X.env = (do
      let ov ← eval o X.env
      standAt apos.atName
      let (f, first) ← holding [ov] (getMethod ov m pl)
      callWith pos f first (backTo pos (starEach [] X.env)) (backToKw pos (keywordEach [] X.env))) := by rfl) :
    PE X (.Call (.Attribute o m apos) [] [] pos) (tMeth C m sp dvs E ta tNil) := by
  intro pins s σ H Q I h
  refine PySem.W.methodCall_KW (pl := pl) (thn (he pins s σ H _ I h) fun u s1 ⟨x, H1, I1, rx, a, dx, fs, ex, ea, l, q⟩ => ?_) ht
  subst ex
  obtain rfl : u = Value.ref a := rx
  refine getmeth_ok I1 ea c hm l ?_
  exact PySem.W.callWith_K0 (first := [.ref a]) I1.kIn hm.kp (run_fn (us := [.ref a]) (vs := [.ref a]) F hr hb hd hx I1 (.cons rfl .nil) q)
/-- what a class must have to be made -/
structure Mk (K : PySem.W.Frag) (C f : Addr) : Prop where
  makes : PySem.W.makesIn K C = true
  init : PySem.W.findIn K (.ref C) "__init__" = some (some (.ref f))
  fn : PySem.W.isFn K (.ref f) = true
  kp : PySem.W.keepIn K (.ref C) = true
theorem run_make {pins : List (Addr × Obj)} {σ : St} {H : Hp} {s : Shared} {Q : VK} {us : List Value} {vs : List V} (M : Mk X.K C f) (F : FnOk X.prog X.w X.K X.mg X.base CX k f fd ps sp) (hr : Room (k + 1) X.A) (hb : Binds X.K fd ps ds) (hd : Vals dvs ds)
    (hx : Passes CX X E) (I : Inv X pins σ H s) (r : Vals vs us)
    (h : ∀ x dx, H x = none → H dx = none → dx ≠ x → sp (.ref x :: (vs ++ dvs)) (upd (upd H dx (.own x)) x (.ins C dx [])) (fun v H2 => v = .non ∧ Q (.ref x) H2) E) :
    wpAny (model X.prog X.w) X.A (call (.ref C) us) (EP X pins σ Q) X.xe s := by
  have hq := h (s.heap.objs.size + 1) s.heap.objs.size (I.hok.fresh (Nat.le_succ _)) (I.hok.fresh (Nat.le_refl _)) (Nat.ne_of_lt (Nat.lt_succ_self _))
  have I2 := Inv.made (C := C) I
  have r2 : Vals (V.ref (s.heap.objs.size + 1) :: (vs ++ dvs)) (Value.ref (s.heap.objs.size + 1) :: (us ++ ds)) := .cons rfl (r.append hd)
  have hl : (Value.ref (s.heap.objs.size + 1) :: us ++ ds).length = ps.length := by
    have e := r2.length
    rw [F.len _ _ _ _ hq] at e
    exact e.symm
  refine wpAny_call (make_map (f := f) I.kIn M.makes M.init (beq_iff_eq.mp M.fn) (codeAny_mono (F.run _ X.stack _ _ ⟨Value.ref (s.heap.objs.size + 1) :: us, []⟩ (Value.ref (s.heap.objs.size + 1) :: (us ++ ds)) _ _ E (hr.make C us [])
    (I2.env0.make C us []) (hb _ (Value.ref (s.heap.objs.size + 1) :: us) I2.kIn hl) r2 hq) fun r s' hq' => ?_))
  cases r with
  | error e => exact hx pins σ _ _ e s' I2 hq'
  | ok fl =>
    cases fl with
    | ret u =>
      obtain ⟨v, H', I3, rv, ev, q3⟩ := I2.after hq'
      subst ev
      exact ⟨rv, ⟨V.ref (s.heap.objs.size + 1), H', I3, rfl, q3⟩⟩
    | next => exact False.elim hq'
    | brk => exact False.elim hq'
    | cont => exact False.elim hq'
theorem pe_make (M : Mk X.K C f) (F : FnOk X.prog X.w X.K X.mg X.base CX k f fd ps sp) (hr : Room (k + 1) X.A) (hg : Gl X x) (hm : X.mg x = some (.ref C)) (hb : Binds X.K fd ps ds) (hd : Vals dvs ds) (hx : Passes CX X E)
    (ha : PA X (e :: es) t) (hdb : (x == ("__debug__" : Str)) = false := by decide) (he : starEach (e :: es) X.env = (false, eval e X.env) :: starEach es X.env := by rfl) (hpl : (backTo pos (starEach es X.env)).any (·.1) = false := by rfl) :
    PE X (.Call (.Name x p) (e :: es) [] pos) (tMake C sp dvs E t) := by
  intro pins s σ H Q I h
  refine wpAny_Call_Name_kw (ld_glob I hg hm ?_ hdb)
  refine PySem.W.callWith_K (h₀ := X.base) I.ok.mod.kin M.kp (thn (ha pos pins s σ H _ I h) fun us s1 ⟨vs, H1, I1, r, q⟩ => ⟨I1.kIn, ?_⟩) he hpl
  exact run_make M F hr hb hd hx I1 r q
theorem pe_make0 (M : Mk X.K C f) (F : FnOk X.prog X.w X.K X.mg X.base CX k f fd ps sp) (hr : Room (k + 1) X.A) (hg : Gl X x) (hm : X.mg x = some (.ref C)) (hb : Binds X.K fd ps ds) (hd : Vals dvs ds) (hx : Passes CX X E)
    (hdb : (x == ("__debug__" : Str)) = false := by decide) : PE X (.Call (.Name x p) [] [] pos) (tMake C sp dvs E tNil) := by
  intro pins s σ H Q I h
  refine wpAny_Call_Name_kw (ld_glob I hg hm ?_ hdb)
  exact PySem.W.callWith_K0 I.kIn M.kp (run_make (us := []) M F hr hb hd hx I .nil h)
end
/-! ### keywords -/
section
variable {X : Cx} {CX : CXT} {k : Nat} {f C : Addr} {fd : FuncData} {ps ks : List Str} {sp : Sp} {E : XK} {x m : Str} {p pos apos kpos : Pos} {e o : Expr} {es : List Expr} {kws : List Keyword} {te ta : TE} {t tk : TA} {nm : Option Str}
variable {g : List Value → List Value → List Value} {gV : List V → List V → List V}
end
/-! ### a def's body keeps its promise -/
/-- names: the parameters first -/
structure FnScope (N P : List Str) (sc : Scope) : Prop where
  kind : sc.kind = .function
  co : sc.isCoroutine = false
  gen : sc.isGenerator = false
  nd : N.Nodup
  pre : N.take P.length = P
  par : ∀ x ∈ P, sc.names.lookup x = some .local ∨ sc.names.lookup x = some .cell
  nofree : ∀ y ∈ sc.names, y.2 ≠ .free
theorem bindL_out {kindOf : Str → Option NameKind} {x : Str} : ∀ {binds : List (Str × Value)} {m : Str → Option Value}, (∀ v, (x, v) ∉ binds) → bindL kindOf binds m x = m x
  | [], _, _ => rfl
  | (n, v) :: r, m, h => by
    unfold bindL
    rw [bindL_out fun w hw => h w (List.mem_cons_of_mem _ hw)]
    split
    · have : x ≠ n := by rintro rfl; exact h v List.mem_cons_self
      simp [this]
    · rfl
theorem bindC_out {kindOf : Str → Option NameKind} {x : Str} : ∀ {binds : List (Str × Value)} {m : Str → Option Value}, (∀ v, (x, v) ∉ binds) → bindC kindOf binds m x = m x
  | [], _, _ => rfl
  | (n, v) :: r, m, h => by
    unfold bindC
    rw [bindC_out fun w hw => h w (List.mem_cons_of_mem _ hw)]
    split
    · rfl
    · have : x ≠ n := by rintro rfl; exact h v List.mem_cons_self
      simp [this]
theorem bindL_get {kindOf : Str → Option NameKind} {x : Str} {v : Value} : ∀ {P : List Str} {vs : List Value} {i : Nat} {m : Str → Option Value}, P.Nodup → P[i]? = some x → vs[i]? = some v → kindOf x = some .local →
    bindL kindOf (P.zip vs) m x = some v
  | [], _, _, _, _, h, _, _ => by simp at h
  | _ :: _, [], _, _, _, _, h, _ => by simp at h
  | p :: P, w :: vs, 0, m, nd, h1, h2, hk => by
    simp at h1 h2; subst h1; subst h2
    show bindL kindOf ((p, w) :: P.zip vs) m p = _
    unfold bindL
    rw [bindL_out fun v hv => (List.nodup_cons.mp nd).1 (List.of_mem_zip hv).1, if_pos hk]
    simp
  | p :: P, w :: vs, i + 1, m, nd, h1, h2, hk => by
    show bindL kindOf ((p, w) :: P.zip vs) m x = _
    unfold bindL
    exact bindL_get (i := i) (List.nodup_cons.mp nd).2 (by simpa using h1) (by simpa using h2) hk
theorem bindC_get {kindOf : Str → Option NameKind} {x : Str} {v : Value} : ∀ {P : List Str} {vs : List Value} {i : Nat} {m : Str → Option Value}, P.Nodup → P[i]? = some x → vs[i]? = some v → kindOf x ≠ some .local →
    bindC kindOf (P.zip vs) m x = some v
  | [], _, _, _, _, h, _, _ => by simp at h
  | _ :: _, [], _, _, _, _, h, _ => by simp at h
  | p :: P, w :: vs, 0, m, nd, h1, h2, hk => by
    simp at h1 h2; subst h1; subst h2
    show bindC kindOf ((p, w) :: P.zip vs) m p = _
    unfold bindC
    rw [bindC_out fun v hv => (List.nodup_cons.mp nd).1 (List.of_mem_zip hv).1, if_neg hk]
    simp
  | p :: P, w :: vs, i + 1, m, nd, h1, h2, hk => by
    show bindC kindOf ((p, w) :: P.zip vs) m x = _
    unfold bindC
    exact bindC_get (i := i) (List.nodup_cons.mp nd).2 (by simpa using h1) (by simpa using h2) hk
/-- the names' values at the entry -/
def start (N : List Str) (vs : List V) : St := vs.map some ++ List.replicate (N.length - vs.length) none
/-- the context of a def's body, at its entry; an exception leaves the frame, then lies as CX says -/
def cxOf (CX : CXT) (P : Program) (w : World) (K : PySem.W.Frag) (mg : Str → Option Value) (base : Heap) (N : List Str) (qual : Str) (scope : Scope) (f : Addr) (cd : Value) (A : Around) (outer : List Env) (s : Shared) (H : Hp) (E : XK) : Cx where
  prog := P
  w := w
  K := K
  mg := mg
  base := base
  A := A.deeper (envOfC qual scope s.heap.objs.size f cd)
  N := N
  s_0 := s
  H_0 := H
  env := envOfC qual scope s.heap.objs.size f cd
  outer := outer
  stack := envOfC qual scope s.heap.objs.size f cd :: outer
  ex := []
  calm := true
  fn := fun _ => true
  pn := []
  xe := fun e s' => wpAny (model P w) (A.deeper (envOfC qual scope s.heap.objs.size f cd)) (leaving (envOfC qual scope s.heap.objs.size f cd) e) (fun _ s'' => CX outer H s E e s'') (fun e' s'' => CX outer H s E e' s'') s'
theorem cell_has {sc : Scope} {n : Nat} {x : Str} (h : sc.names.lookup x = some .cell) : ∃ c, (cellsFrom n sc.names []).lookup x = some c := by
  have q := PySem.W.cellsFrom_some sc.names n [] (.inl h)
  exact Option.isSome_iff_exists.mp q
theorem inv_start {CX : CXT} {P : Program} {w : World} {K : PySem.W.Frag} {mg : Str → Option Value} {base : Heap} {N ps : List Str} {qual : Str} {scope : Scope} {f : Addr} {cd : Value} {A : Around} {outer : List Env} {s s1 : Shared} {H : Hp} {E : XK} {us : List Value} {vs : List V}
    (S : FnScope N ps scope) (hd : A.handled = none) (e0 : Env0 P w K mg base A outer s H) (hl : vs.length = ps.length) (r : Vals vs us)
    (x : InCallC s s.heap.objs.size (bindL (envOfC qual scope s.heap.objs.size f cd).kindOf (ps.zip us) fun _ => none) (cellsFrom (s.heap.objs.size + 1) scope.names []) (bindC (envOfC qual scope s.heap.objs.size f cd).kindOf (ps.zip us) fun _ => none) s1) :
    Inv (cxOf CX P w K mg base N qual scope f cd A outer s H E) [] (start N vs) H s1 := by
  have hpl : ps.length ≤ N.length := by have := congrArg List.length S.pre; rw [List.length_take] at this; omega
  obtain ⟨h1, tk, rfl, hk⟩ := x.done
  have noA : ∀ b : Addr, b ∉ (cxOf CX P w K mg base N qual scope f cd A outer s H E).ex := fun b z => absurd (show b ∈ ([] : List Addr) from z) (by simp)
  refine ⟨⟨e0.mod, S.kind, rfl, rfl, Nat.le_refl _, fun y z c h1 h2 => ?_, fun y hy => ?_, fun y c _ h => ?_, fun _ => hd, Around.frames_deeper e0.frames, .inr ⟨rfl, rfl⟩, fun b z => absurd z (noA b), e0.bs, e0.bsz, fun b _ _ => noA b, fun b z => absurd z (noA b), e0.funs, e0.frf⟩,
    rfl, e0.bare, Un.kept hk, ⟨_, x.toInCall.ns, fun i y v h1 h2 h3 => ?_⟩, fun y c h => ⟨_, x.cell y c h⟩, e0.hok.fresh (Nat.le_refl _), fun y c h => ?_, fun p hp => absurd (show p ∈ ([] : List (Addr × Obj)) from hp) (by simp), e0.hok.kept hk, ?_⟩
  · exact name_of_addr x.apart (PySem.mem_of_lookup h1) (PySem.mem_of_lookup h2)
  · have hy : scope.names.lookup y = some .cell ∨ scope.names.lookup y = some .free := hy
    rcases hy with hy | hy
    · exact cell_has hy
    · exact absurd rfl (S.nofree _ (PySem.mem_of_lookup hy))
  · exact Nat.le_of_lt (x.above y c (PySem.mem_of_lookup h))
  · have hi : i < vs.length := by
      unfold start at h2
      by_cases hi : i < vs.length
      · exact hi
      · rw [List.getElem?_append_right (by simpa using hi)] at h2
        rw [List.getElem?_replicate] at h2
        split at h2 <;> cases h2
    have ha : vs[i]? = some v := by
      unfold start at h2
      rw [List.getElem?_append_left (by simpa using hi), List.getElem?_map] at h2
      cases e : vs[i]? with
      | none => rw [e] at h2; cases h2
      | some a => rw [e] at h2; cases h2; rfl
    obtain ⟨u, hu, rv⟩ := r.get ha
    have hp : ps[i]? = some y := by
      rw [← S.pre, List.getElem?_take_of_lt (by omega)]; exact h1
    have ndP : ps.Nodup := by rw [← S.pre]; exact S.nd.sublist (List.take_sublist _ _)
    refine ⟨u, rv, ?_⟩
    rcases S.par y (List.mem_of_getElem? hp) with k | k
    · exact .inl ⟨k, bindL_get ndP hp hu k⟩
    · obtain ⟨c, e⟩ := cell_has (n := s.heap.objs.size + 1) k
      refine .inr ⟨.inl k, c, e, ?_⟩
      have q := x.cell y c e
      rw [bindC_get ndP hp hu (by show scope.names.lookup y ≠ _; rw [k]; decide)] at q
      exact q
  · exact e0.hok.fresh (Nat.le_of_lt (x.above y c (PySem.mem_of_lookup h)))
  · unfold start
    show _ = N.length
    rw [List.length_append, List.length_map, List.length_replicate]
    omega
/-- THE RULE: a def (or a method) of the text, by its body. The body's reading t is chosen for each entry; it is run at the parameters' values -/
theorem fn_of {CX : CXT} {P : Program} {w : World} {K : PySem.W.Frag} {mg : Str → Option Value} {base : Heap} {k : Nat} {f : Addr} {name qual : Str} {params : Arguments} {body : List Stmt} {scope : Scope} {dV kV doc pm cdv ct oc : Value} {an od : Option Addr}
    {osl : Array (Option Value)} {N ps : List Str} {sp : Sp} (lk : K.lookup f = some ⟨oc, od, .func (PySem.W.fnOf name qual params body scope dV kV doc pm an cdv ct), osl⟩) (hcd : PySem.W.codeIn K cdv qual = true) (S : FnScope N ps scope)
    (len : ∀ vs H Q E, sp vs H Q E → vs.length = ps.length)
    (hbody : ∀ (A : Around) (outer : List Env) (s : Shared) (H : Hp) (vs : List V) (Q : VK) (E : XK), Room k (A.deeper (envOfC qual scope s.heap.objs.size f cdv)) → sp vs H Q E →
      ∃ t, PSs (cxOf CX P w K mg base N qual scope f cdv A outer s H E) body t ∧ t { nx := fun _ H' => Q .non H', rt := Q } (start N vs) H) :
    FnOk P w K mg base CX (k + 1) f (PySem.W.fnOf name qual params body scope dV kV doc pm an cdv ct) ps sp := by
  refine ⟨len, fun A outer s H args us vs Q E hr e0 hb r hsp => ?_⟩
  have hl := len _ _ _ _ hsp
  have KX : K.In s.heap := e0.mod.kin.keeps fun b o e => (e0.bs b o e).1
  have lim : s.heap.NoLimit := e0.mod.nolimit.keeps fun b o e => (e0.bs b o e).1
  have hkind : ∀ y ∈ ps.zip us, scope.names.lookup y.1 = some .local ∨ (scope.names.lookup y.1 = some .cell ∧ ((cellsFrom (s.heap.objs.size + 1) scope.names []).lookup y.1).isSome = true) := fun ⟨n, v⟩ hy => by
    rcases S.par n (List.of_mem_zip hy).1 with q | q
    · exact .inl q
    · exact .inr ⟨q, PySem.W.cellsFrom_some _ _ _ (.inl q)⟩
  refine codeAny_call_function hr.depth (KX _ _ lk) rfl S.co S.gen rfl (PySem.W.codeRec_of KX hcd) (hb _ _ _ _ ?_)
  refine wpAny_newFunctionEnv_cells S.kind hkind fun env he s1 x => ?_
  subst he
  refine ⟨lim.keeps x.toInCall.keep, codeAny_func ?_⟩
  obtain ⟨t, ht, hq⟩ := hbody A outer s H vs Q E (hr.deeper _) hsp
  have I : Inv (cxOf CX P w K mg base N qual scope f cdv A outer s H E) [] (start N vs) H s1 := inv_start S hr.hd e0 hl r x
  refine wpAny_mono (ht [] s1 (start N vs) H _ I hq) (fun fl s' hs => ?_) fun e s' hs => hs
  have fin : ∀ {σ' : St} {H' : Hp} {v : V} {u : Value}, Inv (cxOf CX P w K mg base N qual scope f cdv A outer s H E) [] σ' H' s' → RelV v u → Q v H' → CE outer P w H s Q u s' :=
    fun {σ' H' v u} J rv q => ⟨v, H', J.os, J.bare, J.base, J.hok, rv, q⟩
  cases fl with
  | ret u =>
    obtain ⟨v, σ', H', J, rv, q⟩ := hs
    exact fin J rv q
  | next =>
    obtain ⟨σ', H', J, q⟩ := hs
    exact fin (v := V.non) (u := Value.none) J rfl q
  | brk =>
    obtain ⟨_, _, _, q⟩ := hs
    exact False.elim q
  | cont =>
    obtain ⟨_, _, _, q⟩ := hs
    exact False.elim q
end L2
namespace L2
open PySem PySem.Spec PyProof.Rows
section
variable {X : Cx} {x : Str} {p pos : Pos} {e : Expr} {es : List Expr} {t : TA} {id T : String} {r : List V → Hp → VK → Prop}
def tCB (r : List V → Hp → VK → Prop) (t : TA) : TE := fun σ H Q => t σ H fun vs H1 => r vs H1 Q
/-- f(e, ..), f a built-in function -/
theorem pe_callB (hc : CallR X (.builtin id) r) (hg : Gl X x) (hm : X.mg x = none) (hv : bootBuiltins x = some (.builtin id)) (ha : PA X (e :: es) t) (hn : x ≠ "__name__" := by decide) (hdb : (x == ("__debug__" : Str)) = false := by decide)
    (he : starEach (e :: es) X.env = (false, eval e X.env) :: starEach es X.env := by rfl) (hpl : (backTo pos (starEach es X.env)).any (·.1) = false := by rfl) : PE X (.Call (.Name x p) (e :: es) [] pos) (tCB r t) := by
  intro pins s σ H Q I h
  refine wpAny_Call_Name_kw (ld_blt I hg hm hv ?_ hn hdb)
  exact PyProof.Rows.callWith_builtin1 (thn (ha pos pins s σ H _ I h) fun us s1 ⟨vs, H1, I1, r1, q1⟩ => hc pins s1 σ H1 vs us Q I1 r1 q1) he hpl
/-- T(e, ..), T a built-in type -/
theorem pe_callTy (hc : CallR X (.type T) r) (hg : Gl X x) (hm : X.mg x = none) (hv : bootBuiltins x = some (.type T)) (ha : PA X (e :: es) t) (hn : x ≠ "__name__" := by decide) (hdb : (x == ("__debug__" : Str)) = false := by decide)
    (he : starEach (e :: es) X.env = (false, eval e X.env) :: starEach es X.env := by rfl) (hpl : (backTo pos (starEach es X.env)).any (·.1) = false := by rfl) : PE X (.Call (.Name x p) (e :: es) [] pos) (tCB r t) := by
  intro pins s σ H Q I h
  refine wpAny_Call_Name_kw (ld_blt I hg hm hv ?_ hn hdb)
  exact PyProof.Rows.callWith_type1 (thn (ha pos pins s σ H _ I h) fun us s1 ⟨vs, H1, I1, r1, q1⟩ => hc pins s1 σ H1 vs us Q I1 r1 q1) he hpl
end
end L2
namespace HT
open PySem PyProof.Rows
section
open PySem.SeqAt
open PySem.AutoSeq1 (wpAny_loadPart')
open PySem.MeetsSeq PySem.MeetsSeq2 PySem.MeetsSeq3
end
section
variable {prog : Program} {w : World} {A : Around} {E : Value → Shared → Prop} {s : Shared}
/-! ### t[a:b], not the whole -/
/-- a slice's bound as a place among n (d where it is left out) -/
def sIx (n d : Nat) : Option Int → Nat
  | none => d
  | some v => if v < 0 then (v + (n : Int)).toNat else min v.toNat n
theorem sIx_nat (n d k : Nat) : sIx n d (some (k : Int)) = min k n := by
  show (if (k : Int) < 0 then ((k : Int) + (n : Int)).toNat else min (k : Int).toNat n) = min k n
  rw [if_neg (by omega), Int.toNat_natCast]
end
end HT
namespace L2
open PySem PySem.Spec PyProof.Rows
/-! ### the parts of a slice -/
abbrev TO := St → Hp → (Option Int → Hp → Prop) → Prop
/-- a slice's part (left out, or an int) -/
def PO (X : Cx) (e : Option Expr) (t : TO) : Prop :=
  ∀ (pins : List (Addr × Obj)) (s : Shared) (σ : St) (H : Hp) (Q : Option Int → Hp → Prop), Inv X pins σ H s → t σ H Q →
    wpAny (model X.prog X.w) X.A (evalPart e X.env) (fun u s' => ∃ o H', Inv X pins σ H' s' ∧ IsPart u o ∧ Q o H') X.xe s
def tPart (t : TE) : TO := fun σ H Q => t σ H fun x H1 => ∃ i, x = .int i ∧ Q (some i) H1
section
variable {X : Cx} {e : Expr} {te : TE} {lo hi : Option Expr} {tl th : TO} {pos p2 : Pos}
theorem po_some (h : PE X e te) : PO X (some e) (tPart te) := by
  intro pins s σ H Q I hw
  rw [evalPart_some]
  refine thn (h pins s σ H _ I hw) fun u s1 ⟨x, H1, I1, r1, q1⟩ => ?_
  obtain ⟨i, rfl, q⟩ := q1
  obtain ⟨t, rfl⟩ := r1
  exact ⟨some i, H1, I1, .int i t, q⟩
/-- what a slice of a value is, by values: the slice object stands at sl -/
def SlR (X : Cx) (r : V → Option Int → Option Int → Hp → VK → Prop) : Prop :=
  ∀ (pins : List (Addr × Obj)) (s : Shared) (σ : St) (H : Hp) (x : V) (v vl vu : Value) (lo hi : Option Int) (sl : Addr) (Q : VK), Inv X pins σ H s → RelV x v → s.heap.IsSliceOf sl vl vu .none → IsPart vl lo → IsPart vu hi → r x lo hi H Q →
    ∃ T id, typeLookup (.type T) "__getitem__" = pure (some (.builtin id)) ∧ s.TypeIs v T ∧ wpAny (model X.prog X.w) X.A (getItem v (.ref sl)) (EP X pins σ Q) X.xe s
def tSl (r : V → Option Int → Option Int → Hp → VK → Prop) (te : TE) (tl th : TO) : TE := fun σ H Q => te σ H fun x H1 => tl σ H1 fun l H2 => th σ H2 fun u H3 => r x l u H3 Q
/-- a[lo:hi], any a -/
theorem pe_slice {r : V → Option Int → Option Int → Hp → VK → Prop} (hr : SlR X r) (he : PE X e te) (hl : PO X lo tl) (hu : PO X hi th) : PE X (.Subscript e (.Slice lo hi none p2) pos) (tSl r te tl th) := by
  intro pins s σ H Q I h
  refine Subscript_ (thn (he pins s σ H _ I h) fun v s1 ⟨x, H1, I1, r1, q1⟩ => ?_)
  refine wpAny_Slice (thn (hl pins s1 σ H1 _ I1 q1) fun vl s2 ⟨l, H2, I2, pl, q2⟩ => thn (hu pins s2 σ H2 _ I2 q2) fun vu s3 ⟨u, H3, I3, pu, q3⟩ => ?_)
  rw [evalPart_none]
  refine wpAny_pure ?_
  have I4 : Inv X pins σ H3 { s3 with heap := s3.heap.push { cls := .type "slice", data := .fields #[vl, vu, .none] } } := I3.kept (t' := s3.toks) fun b ob q => Heap.get?_push_of_some _ q
  obtain ⟨T, id, hT, ht, hg⟩ := hr pins { s3 with heap := s3.heap.push { cls := .type "slice", data := .fields #[vl, vu, .none] } } σ H3 x v vl vu l u s3.heap.objs.size Q I4 r1 (Heap.IsSliceOf.new ..) pl pu q3
  show wpAny (model X.prog X.w) X.A (subscriptTail e (.Slice lo hi none p2) v (.ref s3.heap.objs.size)) (EP X pins σ Q) X.xe { s3 with heap := s3.heap.push { cls := .type "slice", data := .fields #[vl, vu, .none] } }
  exact tail_any (ops := [.ref s3.heap.objs.size, v]) ht hT hg (by with_unfolding_all rfl)
/-- the items of xs[lo:hi] -/
def cutV (xs : List V) (lo hi : Option Int) : List V := (xs.drop (HT.sIx xs.length 0 lo)).take (HT.sIx xs.length xs.length hi - HT.sIx xs.length 0 lo)
theorem cutV_length (xs : List V) (lo hi : Option Int) : (cutV xs lo hi).length ≤ xs.length := by
  unfold cutV
  rw [List.length_take, List.length_drop]
  omega
/-! ### t < u, t + u -/
end
end L2
namespace L2
open PySem PySem.Spec PyProof.Rows
/-! ### places -/
/-- the place that an index of any sign means -/
def ixN (n : Nat) (i : Int) : Option Nat := if 0 ≤ i then (if i < n then some i.toNat else none) else if -(n : Int) ≤ i then some (i + n).toNat else none
def atI {α : Type} (xs : List α) (i : Int) : Option α := (ixN xs.length i).bind fun j => xs[j]?
theorem ixN_seq {n : Nat} {i : Int} {j : Nat} (h : ixN n i = some j) : seqIndex? i n = some j ∧ j < n ∧ -(n : Int) ≤ i ∧ i < n := by
  unfold ixN at h
  by_cases h0 : 0 ≤ i
  · rw [if_pos h0] at h
    by_cases h1 : i < n
    · rw [if_pos h1] at h
      have e : i.toNat = j := Option.some.inj h
      exact ⟨by rw [seqIndex_of h0 h1, e], by omega, by omega, h1⟩
    · rw [if_neg h1] at h; cases h
  · rw [if_neg h0] at h
    by_cases h1 : -(n : Int) ≤ i
    · rw [if_pos h1] at h
      have e : (i + n).toNat = j := Option.some.inj h
      exact ⟨by rw [seqIndex_neg (by omega) h1, e], by omega, h1, by omega⟩
    · rw [if_neg h1] at h; cases h
theorem atI_get {α : Type} {xs : List α} {i : Int} {v : α} (h : atI xs i = some v) : ∃ j, seqIndex? i xs.length = some j ∧ xs[j]? = some v ∧ j < xs.length ∧ -(xs.length : Int) ≤ i ∧ i < xs.length := by
  unfold atI at h
  cases e : ixN xs.length i with
  | none => rw [e] at h; cases h
  | some j =>
    rw [e] at h
    obtain ⟨h1, h2, h3, h4⟩ := ixN_seq e
    exact ⟨j, h1, h, h2, h3, h4⟩
theorem atI_nat {α : Type} {xs : List α} {j : Nat} {v : α} (h : xs[j]? = some v) : atI xs (j : Int) = some v := by
  have hj : j < xs.length := (List.getElem?_eq_some_iff.mp h).1
  have e : ixN xs.length (j : Int) = some j := by
    unfold ixN
    rw [if_pos (by omega), if_pos (by omega)]; simp
  unfold atI; rw [e]; exact h
/-! ### what may be subscripted -/
/-- what stands as an index of a plain subscript -/
def PlainIx (b : Expr) : Prop := ∀ o i, subscripted b false o i = operate [o, i] (getItem o i)
/-- a subscript by values -/
def IxR (X : Cx) (r : R2) : Prop :=
  ∀ (value slice : Expr) (pins : List (Addr × Obj)) (s : Shared) (σ : St) (H : Hp) (x y : V) (v u : Value) (Q : VK), Inv X pins σ H s → RelV x v → RelV y u → r x y H Q →
    subscripted slice false v u = operate [v, u] (getItem v u) → wpAny (model X.prog X.w) X.A (subscriptTail value slice v u) (EP X pins σ Q) X.xe s
/-- a call of a builtin's method by values: the receiver, the arguments -/
def MtR (X : Cx) (id : String) (r : V → List V → Hp → VK → Prop) : Prop :=
  ∀ (pins : List (Addr × Obj)) (s : Shared) (σ : St) (H : Hp) (x : V) (xs : List V) (v : Value) (us : List Value) (Q : VK), Inv X pins σ H s → RelV x v → Vals xs us → r x xs H Q →
    wpAny (model X.prog X.w) X.A (call (.builtin id) (v :: us)) (EP X pins σ Q) X.xe s
section
variable {X : Cx} {a b : Expr} {ta tb : TE} {pos : Pos}
/-- a[b] -/
theorem pe_ix {r : R2} (hr : IxR X r) (ha : PE X a ta) (hb : PE X b tb) (hs : PlainIx b) : PE X (.Subscript a b pos) (tOp r ta tb) := by
  intro pins s σ H Q I h
  exact Subscript_ (binT ha hb I h fun v u s2 x y H2 I2 rx ry q => hr a b pins s2 σ H2 x y v u Q I2 rx ry q (hs _ _))
def rIxL (K : PySem.W.Frag) : R2 := fun x y H Q => ∃ p xs i v, x = .ref p ∧ y = .int i ∧ SqL K H p xs ∧ atI xs i = some v ∧ Q v H
def rIxT (K : PySem.W.Frag) : R2 := fun x y H Q => ∃ p xs i v, x = .ref p ∧ y = .int i ∧ SqT K H p xs ∧ atI xs i = some v ∧ Q v H
theorem ix_list : IxR X (rIxL X.K) := by
  intro value slice pins s σ H x y v u Q I rx ry h hs
  obtain ⟨p, xs, i, z, rfl, rfl, hq, he, q⟩ := h
  cases rx
  obtain ⟨t, rfl⟩ := ry
  obtain ⟨its, r, pl, hz⟩ := I.list hq
  obtain ⟨j, h1, h2, h3, h4, h5⟩ := atI_get he
  obtain ⟨w, ew, rw'⟩ := r.get h2
  have hl := r.length
  have hn := line63
  have fin : EP X pins σ Q w s := ⟨z, H, I, rw', q⟩
  by_cases h0 : 0 ≤ i
  · have hj : i.toNat = j := by
      rw [seqIndex_of h0 h5] at h1
      exact Option.some.inj h1
    exact item_listR pl.isList h0 (by omega) (by rw [hj]; simpa using ew) fin hs
  · have hj : (i + (its.toArray.size : Int)).toNat = j := by
      rw [seqIndex_neg (by omega) h4] at h1
      rw [List.size_toArray, ← hl]
      exact Option.some.inj h1
    exact subscriptTail_builtinR (x := w) pl.isList.typeIs slot_list_getitem.lookup
      (wpAny_getItem_list_neg (Q := fun r s' => r = w ∧ EP X pins σ Q r s') pl.isList (by omega) (by rw [List.size_toArray] <;> omega) (by omega) (by rw [hj]; simpa using ew) ⟨rfl, fin⟩) hs
theorem ix_tup : IxR X (rIxT X.K) := by
  intro value slice pins s σ H x y v u Q I rx ry h hs
  obtain ⟨p, xs, i, z, rfl, rfl, hq, he, q⟩ := h
  cases rx
  obtain ⟨t, rfl⟩ := ry
  obtain ⟨its, r, pl, hz⟩ := I.tuple hq
  obtain ⟨j, h1, h2, h3, h4, h5⟩ := atI_get he
  obtain ⟨w, ew, rw'⟩ := r.get h2
  have hl := r.length
  have hn := line63
  have fin : EP X pins σ Q w s := ⟨z, H, I, rw', q⟩
  exact subscriptTail_builtinR (x := w) pl.typeIs slot_tuple_getitem.lookup
    (getItem_tuple (j := j) (Q := fun r s' => r = w ∧ EP X pins σ Q r s') pl (by omega) (by omega) (by rw [List.size_toArray, ← hl]; exact h1) (by simpa using ew) ⟨rfl, fin⟩) hs
/-! ### xs[i] = v, any sign -/
/-! ### slices -/
theorem slice_bounds (lo hi : Option Int) (n : Nat) : (sliceBounds lo hi none n).1 = ((HT.sIx n 0 lo : Nat) : Int) ∧ (sliceBounds lo hi none n).2.1 = ((HT.sIx n n hi : Nat) : Int) ∧ (sliceBounds lo hi none n).2.2 = 1 := by
  refine ⟨?_, ?_, rfl⟩
  · cases lo with
    | none => simp [sliceBounds, HT.sIx]
    | some i =>
      simp only [sliceBounds, HT.sIx, Option.getD_none, show (1 : Int) > 0 by decide, if_true]
      by_cases h : i < 0
      · simp only [h, if_true] <;> omega
      · simp only [h, if_false] <;> omega
  · cases hi with
    | none => simp [sliceBounds, HT.sIx]
    | some i =>
      simp only [sliceBounds, HT.sIx, Option.getD_none, show (1 : Int) > 0 by decide, if_true]
      by_cases h : i < 0
      · simp only [h, if_true] <;> omega
      · simp only [h, if_false] <;> omega
theorem slicePick_cut (its : List Value) (lo hi : Option Int) : slicePick its.toArray lo hi none = ((its.drop (HT.sIx its.length 0 lo)).take (HT.sIx its.length its.length hi - HT.sIx its.length 0 lo)).toArray := by
  obtain ⟨h1, h2, h3⟩ := slice_bounds lo hi its.toArray.size
  unfold slicePick
  rw [h1, h2, h3]
  simp only [sliceRange_one, pick_run, List.size_toArray] <;> rfl
/-- xs[lo:hi] of a list: a new list -/
def rSlL (K : PySem.W.Frag) : V → Option Int → Option Int → Hp → VK → Prop := fun x lo hi H Q => ∃ a xs, x = .ref a ∧ SqL K H a xs ∧ ∀ p, H p = none → Q (.ref p) (upd H p (.lst (cutV xs lo hi)))
theorem sl_list : SlR X (rSlL X.K) := by
  intro pins s σ H x v vl vu lo hi sl Q I rx hs pl pu h
  obtain ⟨a, xs, rfl, hx, q⟩ := h
  cases rx
  obtain ⟨its, r, ht, hz⟩ := I.list hx
  have hlen := r.length
  refine ⟨"list", _, slot_list_getitem.lookup, ht.isList.typeIs, ?_⟩
  refine wpAny_getItem_list_slice ht.isList hs pl pu .none (by simp) ?_ (by rw [List.size_toArray] <;> omega)
  rw [slicePick_cut, ← hlen]
  refine ⟨.ref s.heap.objs.size, _, I.laid (t' := s.toks) (o := .lst (cutV xs lo hi)) (fun b ob q => Heap.get?_push_of_some _ q) (Nat.le_refl _) ?_, rfl, q _ (I.hok.fresh (Nat.le_refl _))⟩
  exact ⟨Nat.le_trans (cutV_length xs lo hi) hz, _, 0, (r.drop (HT.sIx xs.length 0 lo)).take (HT.sIx xs.length xs.length hi - HT.sIx xs.length 0 lo), Heap.get?_push_size _ rfl⟩
/-! ### in, not in: flat items -/
def flatV : V → Bool
  | .non => true
  | .bl _ => true
  | .int _ => true
  | .str _ => true
  | _ => false
/-- == of flat values -/
def eqV : V → V → Bool
  | .non, .non => true
  | .bl a, .bl b => a == b
  | .bl a, .int b => (if a then 1 else 0) == b
  | .int a, .bl b => a == (if b then 1 else 0)
  | .int a, .int b => a == b
  | .str a, .str b => a == b
  | _, _ => false
theorem eqAt_V {A : Around} {s : Shared} {y x : V} {u v : Value} (ry : RelV y u) (rx : RelV x v) (fy : flatV y = true) (fx : flatV x = true) : SeqAt.EqAt A s u v (eqV y x) := by
  cases y with
  | non =>
    cases ry
    cases x with
    | non => cases rx; exact SeqAt.EqAt.same _
    | bl b => cases rx; exact SeqAt.EqAt.none_bool b
    | int b => obtain ⟨t, rfl⟩ := rx; exact SeqAt.EqAt.none_int b t
    | str b => obtain ⟨t, rfl⟩ := rx; exact SeqAt.EqAt.none_str b t
    | _ => exact absurd (show false = true from fx) Bool.false_ne_true
  | bl a =>
    cases ry
    cases x with
    | non => cases rx; exact SeqAt.EqAt.bool_none a
    | bl b => cases rx; exact SeqAt.EqAt.bool_bool a b
    | int b => obtain ⟨t, rfl⟩ := rx; exact SeqAt.EqAt.bool_int a b t
    | str b => obtain ⟨t, rfl⟩ := rx; exact SeqAt.EqAt.bool_str a b t
    | _ => exact absurd (show false = true from fx) Bool.false_ne_true
  | int a =>
    obtain ⟨t', rfl⟩ := ry
    cases x with
    | non => cases rx; exact SeqAt.EqAt.int_none a t'
    | bl b => cases rx; exact SeqAt.EqAt.int_bool a t' b
    | int b => obtain ⟨t, rfl⟩ := rx; exact SeqAt.EqAt.int_int a t' b t
    | str b => obtain ⟨t, rfl⟩ := rx; exact SeqAt.EqAt.int_str a t' b t
    | _ => exact absurd (show false = true from fx) Bool.false_ne_true
  | str a =>
    obtain ⟨t', rfl⟩ := ry
    cases x with
    | non => cases rx; exact SeqAt.EqAt.str_none a t'
    | bl b => cases rx; exact SeqAt.EqAt.str_bool a t' b
    | int b => obtain ⟨t, rfl⟩ := rx; exact SeqAt.EqAt.str_int a t' b t
    | str b => obtain ⟨t, rfl⟩ := rx; exact SeqAt.EqAt.str_str a t' b t
    | _ => exact absurd (show false = true from fx) Bool.false_ne_true
  | _ => exact absurd (show false = true from fy) Bool.false_ne_true
/-- the items' answers, read off the values (a value's own answer does not lean on its token) -/
def eqU (x : V) (u : Value) : Bool := match u with
  | .none => eqV .non x
  | .bool b => eqV (.bl b) x
  | .int i _ => eqV (.int i) x
  | .str z _ => eqV (.str z) x
  | _ => false
theorem eqU_of {x y : V} {u : Value} (r : RelV y u) (f : flatV y = true) : eqU x u = eqV y x := by
  cases y with
  | non => cases r; rfl
  | bl b => cases r; rfl
  | int i => obtain ⟨t, rfl⟩ := r; rfl
  | str z => obtain ⟨t, rfl⟩ := r; rfl
  | _ => exact absurd (show false = true from f) Bool.false_ne_true
theorem any_eqU {x : V} : ∀ {xs : List V} {us : List Value}, Vals xs us → xs.all flatV = true → us.any (eqU x) = xs.any fun y => eqV y x
  | _, _, .nil, _ => rfl
  | y :: xs, u :: us, .cons r t, f => by
    rw [List.all_cons, Bool.and_eq_true] at f
    rw [List.any_cons, List.any_cons, eqU_of r f.1, any_eqU t f.2]
theorem mem_eqAt {A : Around} {s : Shared} {x : V} {v : Value} (rx : RelV x v) (fx : flatV x = true) : ∀ {xs : List V} {us : List Value}, Vals xs us → xs.all flatV = true → ∀ u ∈ us, SeqAt.EqAt A s u v (eqU x u)
  | _, _, .nil, _ => fun u hu => by cases hu
  | y :: xs, u :: us, .cons r t, f => fun u' hu => by
    rw [List.all_cons, Bool.and_eq_true] at f
    rcases List.mem_cons.mp hu with rfl | hu
    · rw [eqU_of r f.1]; exact eqAt_V r rx f.1 fx
    · exact mem_eqAt rx fx t f.2 u' hu
def inV (x : V) (xs : List V) : Bool := xs.any fun y => eqV y x
/-- x in a list or tuple of flat items -/
def rIn (K : PySem.W.Frag) (neg : Bool) : R2 := fun x y H Q => ∃ p xs, y = .ref p ∧ (SqL K H p xs ∨ SqT K H p xs) ∧ flatV x = true ∧ xs.all flatV = true ∧ Q (.bl (if neg then !inV x xs else inV x xs)) H
theorem op_notIn_seq : OpR X (compareOp .NotIn) (rIn X.K true) := by
  intro pins s σ H x y v u Q I rx ry h
  obtain ⟨p, xs, rfl, hq, fx, fs, q⟩ := h
  cases ry
  rcases hq with hq | hq
  · obtain ⟨its, r, pl, hz⟩ := I.list hq
    refine SeqAt.notIn_listAt (eqU x) pl.isList (fun w hw => mem_eqAt rx fx r fs w (by simpa using hw)) ⟨.bl _, H, I, rfl, ?_⟩
    rw [show its.toArray.any (eqU x) = its.any (eqU x) by simp, any_eqU r fs]
    exact q
  · obtain ⟨its, r, pl, hz⟩ := I.tuple hq
    refine SeqAt.notIn_tupleAt (eqU x) pl (fun w hw => mem_eqAt rx fx r fs w (by simpa using hw)) ⟨.bl _, H, I, rfl, ?_⟩
    rw [show its.toArray.any (eqU x) = its.any (eqU x) by simp, any_eqU r fs]
    exact q
/-! ### len, list(x), tuple(x) of any list or tuple that is read -/
theorem call_len_seq : CallR X (.builtin "len") (fun xs H Q => ∃ p ys, xs = [.ref p] ∧ (SqL X.K H p ys ∨ SqT X.K H p ys) ∧ Q (.int ys.length) H) := by
  intro pins s σ H xs us Q I r h
  obtain ⟨p, ys, rfl, hq, q⟩ := h
  obtain ⟨u, rfl, rx⟩ := vals1 r
  cases rx
  have hn := line63
  rcases hq with hq | hq
  · obtain ⟨its, r', pl, hz⟩ := I.list hq
    have hlen := r'.length
    exact Calls.call_len_list pl.isList (by simp only [List.size_toArray] <;> omega) ⟨.int ys.length, H, I.tok _, ⟨s.toks + 1, by rw [List.size_toArray, hlen]⟩, q⟩
  · obtain ⟨its, r', pl, hz⟩ := I.tuple hq
    have hlen := r'.length
    exact len_tuple pl (by simp only [List.size_toArray] <;> omega) ⟨.int ys.length, H, I.tok _, ⟨s.toks + 1, by rw [List.size_toArray, hlen]⟩, q⟩
theorem call_list_of : CallR X (.type "list") (fun xs H Q => ∃ p ys, xs = [.ref p] ∧ (SqL X.K H p ys ∨ SqT X.K H p ys) ∧ ∀ l, H l = none → Q (.ref l) (upd H l (.lst ys))) := by
  intro pins s σ H xs us Q I r h
  obtain ⟨p, ys, rfl, hq, q⟩ := h
  obtain ⟨u, rfl, rx⟩ := vals1 r
  cases rx
  have fin : ∀ (its : List Value), Vals ys its → ys.length ≤ sizeLine → ∀ (h' : Heap) (c' : Nat), (∀ b o', s.heap.get? b = some o' → h'.get? b = some o') →
      h'.get? s.heap.objs.size = some { cls := .type "list", dict := none, data := .seq its.toArray c', slots := #[] } → EP X pins σ Q (.ref s.heap.objs.size) { s with heap := h' } := fun its r' hz h' c' kp e =>
    ⟨.ref s.heap.objs.size, _, I.laid (t' := s.toks) kp (Nat.le_refl _) (show ObjOk X.prog X.w _ h' _ (.lst ys) from ⟨hz, its, c', r', e⟩), rfl, q _ (I.hok.fresh (Nat.le_refl _))⟩
  rcases hq with hq | hq
  · obtain ⟨its, r', pl, hz⟩ := I.list hq
    have hlen := r'.length
    obtain ⟨o, ho, hc, n, hd⟩ := pl.isList
    exact call_list_seq p (.inl rfl) ho hc hd (fun h' c' kp e => fin its r' hz h' c' kp e) (by simp only [List.size_toArray] <;> omega)
  · obtain ⟨its, r', pl, hz⟩ := I.tuple hq
    have hlen := r'.length
    obtain ⟨o, ho, hc, n, hd⟩ := pl
    exact call_list_seq p (.inr rfl) ho hc hd (fun h' c' kp e => fin its r' hz h' c' kp e) (by simp only [List.size_toArray] <;> omega)
/-! ### the call of a builtin's method: o.m(..) -/
/-- the value is of that builtin type -/
def tyV (K : PySem.W.Frag) (T : String) (x : V) (H : Hp) : Prop := match x with
  | .str _ => T = "str"
  | .int _ => T = "int"
  | .ref p => (T = "list" ∧ ∃ xs, SqL K H p xs) ∨ (T = "tuple" ∧ ∃ o, K.lookup p = some o ∧ o.cls = .type "tuple" ∧ o.dict = none) ∨
      (T = "dict" ∧ ((∃ kvs, H p = some (.dK kvs)) ∨ ∃ kvs, H p = some (.dT kvs))) ∨ (T = "set" ∧ ∃ S n, H p = some (.set S n))
  | _ => False
theorem tyV_is {pins : List (Addr × Obj)} {σ : St} {H : Hp} {s : Shared} {T : String} {x : V} {v : Value} (I : Inv X pins σ H s) (r : RelV x v) (ty : tyV X.K T x H) :
    s.TypeIs v T ∧ ∀ a, v = .ref a → ∃ ob, s.heap.get? a = some ob ∧ ob.dict = none := by
  cases x with
  | str z =>
    obtain ⟨t, rfl⟩ := r
    cases (show T = "str" from ty)
    exact ⟨typeIs_str s z t, fun _ e => nomatch e⟩
  | int i =>
    obtain ⟨t, rfl⟩ := r
    cases (show T = "int" from ty)
    exact ⟨typeIs_int s i t, fun _ e => nomatch e⟩
  | ref p =>
    cases r
    rcases ty with ⟨rfl, xs, hq⟩ | ⟨rfl, o, hk, hc, hd⟩ | ⟨rfl, hk⟩ | ⟨rfl, S, n, hk⟩
    · obtain ⟨its, _, pl, _⟩ := I.list hq
      refine ⟨pl.isList.typeIs, fun a e => ?_⟩
      cases e
      obtain ⟨o, n, e, c, hd, _⟩ := pl
      exact ⟨o, e, hd⟩
    · refine ⟨⟨o, I.kIn p o hk, hc⟩, fun a e => ?_⟩
      cases e
      exact ⟨o, I.kIn _ o hk, hd⟩
    · have z : ∃ o, s.heap.get? p = some o ∧ o.ExactDict := by
        rcases hk with ⟨kvs, hk⟩ | ⟨kvs, hk⟩
        · obtain ⟨_, _, _, _, o, _, _, e, ex, _⟩ := I.hok p _ hk
          exact ⟨o, e, ex⟩
        · obtain ⟨_, _, _, _, o, _, _, e, ex, _⟩ := I.hok p _ hk
          exact ⟨o, e, ex⟩
      obtain ⟨o, e, ex⟩ := z
      refine ⟨⟨o, e, ex.1⟩, fun a e2 => ?_⟩
      cases e2
      exact ⟨o, e, ex.2.1⟩
    · obtain ⟨o, _, _, _, e, ex, _⟩ := I.hok p _ hk
      refine ⟨⟨o, e, ex.1⟩, fun a e2 => ?_⟩
      cases e2
      exact ⟨o, e, ex.2.1⟩
  | _ => exact False.elim ty
def tBM (K : PySem.W.Frag) (T : String) (r : V → List V → Hp → VK → Prop) (to : TE) (t : TA) : TE := fun σ H Q => to σ H fun x H1 => tyV K T x H1 ∧ t σ H1 fun xs H2 => r x xs H2 Q
variable {o e : Expr} {es : List Expr} {to : TE} {t : TA} {name : Str} {apos cpos : Pos} {T id : String} {r : V → List V → Hp → VK → Prop}
theorem pe_bm (pa : PlainAttrs T) (slot : Slot T name id) (hty : typeOf (.builtin id) = pure (.type "method_descriptor")) (hm : MtR X id r) (ho : PE X o to) (ha : PA X (e :: es) t)
    (hbase : attributeBase o name X.env (eval o X.env) = eval o X.env := by rfl)
    (hfew : ((backTo cpos (starEach (e :: es) X.env)).all (fun x => !x.1) && (backToKw cpos (keywordEach [] X.env)).all (fun x => x.1.isSome)
      && decide ((e :: es).length + ([] : List Keyword).length + (if ([] : List Keyword).isEmpty then 0 else 1) < 30)) = true := by rfl)
    (hline : (apos.endLine == cpos.line) = true := by rfl) (hs : starEach (e :: es) X.env = (false, eval e X.env) :: starEach es X.env := by rfl) (hplain : (backTo cpos (starEach es X.env)).any (·.1) = false := by rfl) :
    PE X (.Call (.Attribute o name apos) (e :: es) [] cpos) (tBM X.K T r to t) := by
  intro pins s σ H Q I h
  refine wpAny_Call_method_late hbase hfew hline rfl (thn (ho pins s σ H _ I h) fun v s1 ⟨x, H1, I1, r1, ty, q1⟩ => ?_)
  obtain ⟨h1, h2⟩ := tyV_is I1 r1 ty
  refine ⟨T, id, pa, slot, hty, h1, h2, ?_⟩
  have hA := ha cpos pins s1 σ H1 _ I1 q1
  rw [hs] at hA ⊢
  refine Calls.callWith_builtin (by show (false || (backTo cpos (starEach es X.env)).any (·.1)) = false; rw [hplain] <;> rfl) (Calls.evalArgs_plain ?_)
  exact thn hA fun us s2 ⟨vs, H2, I2, r2, q2⟩ => hm pins s2 σ H2 x vs v us Q I2 r1 r2 q2
/- xs.append(e), list.index on a module's tuple .. are MtR facts of 06m -/
end
end L2
namespace L2
open PySem PySem.Spec PyProof.Rows
def MtM (X : Cx) (id : String) (r : V → List V → Hp → VK → Prop) : Prop :=
  ∀ (pins : List (Addr × Obj)) (s : Shared) (σ : St) (H : Hp) (x : V) (xs : List V) (v : Value) (us : List Value) (Q : VK), Inv X pins σ H s → RelV x v → Vals xs us → r x xs H Q →
    wpAny (model X.prog X.w) X.A (call (.builtin id) (v :: us)) (EP X pins σ Q) X.xe s
/-! ### lists of values -/
theorem Vals.one : ∀ {x : V} {us : List Value}, Vals [x] us → ∃ u, us = [u] ∧ RelV x u
  | _, _, .cons r .nil => ⟨_, rfl, r⟩
section
variable {X : Cx} {pins : List (Addr × Obj)} {σ : St} {H : Hp} {s : Shared} {l b : Addr} {xs ys zs : List V}
/-! ### the two steps: a tracked list is rewritten, a new list is laid -/
theorem Inv.lset {its its' : List Value} {n : Nat} {f : Array Value → Array Value} {t' : Nat} (I : Inv X pins σ H s) (hH : H l = some (.lst xs))
    (e : s.heap.get? l = some { cls := .type "list", data := .seq its.toArray n }) (hf : f its.toArray = its'.toArray) (hv : Vals ys its') (hz : ys.length ≤ sizeLine) :
    Inv X pins σ (upd H l (.lst ys)) { s with heap := s.heap.update l (Obj.mapSeq f), toks := t' } := by
  have q := PySem.IsL.update e f
  rw [hf] at q
  refine I.write (x := l) (e := l) (by rw [hH]; exact trivial) (.inl rfl) (fun b' u hb hu => (Heap.get?_update_other s.heap (Obj.mapSeq f) (Ne.symm hb)).trans hu) ⟨_, q⟩ ?_
  exact ⟨hz, its', _, hv, q⟩
theorem Inv.lnew {its : List Value} {t' : Nat} (I : Inv X pins σ H s) (hv : Vals ys its) (hz : ys.length ≤ sizeLine) :
    Inv X pins σ (upd H s.heap.objs.size (.lst ys)) { s with heap := s.heap.push { cls := .type "list", data := .seq its.toArray }, toks := t' } :=
  I.laid (fun _ _ q => Heap.get?_push_of_some _ q) (Nat.le_refl _) ⟨hz, its, 0, hv, Heap.get?_push_size _ rfl⟩
theorem Inv.fresh (I : Inv X pins σ H s) : H s.heap.objs.size = none := I.hok.fresh (Nat.le_refl _)
theorem Inv.lstM (I : Inv X pins σ H s) (hH : H l = some (.lst xs)) : xs.length ≤ sizeLine ∧ ∃ (its : List Value) (n : Nat), Vals xs its ∧ xs.length = its.length ∧ s.heap.get? l = some { cls := .type "list", data := .seq its.toArray n } := by
  obtain ⟨z, its, n, r, e⟩ := I.hok l _ hH
  exact ⟨z, its, n, r, r.length, e⟩
theorem notLongL {n : Nat} (h : n ≤ sizeLine) : Builtin.List.listTooLong n = false := by
  unfold Builtin.List.listTooLong
  exact decide_eq_false (by omega)
end
section
variable {X : Cx}
/-! ### methods -/
def rAppend : V → List V → Hp → VK → Prop := fun x vs H Q => ∃ l xs y, x = .ref l ∧ vs = [y] ∧ H l = some (.lst xs) ∧ xs.length < sizeLine ∧ Q .non (upd H l (.lst (xs ++ [y])))
theorem mt_append : MtM X "list.append" rAppend := by
  intro pins s σ H x vs v us Q I rx rv h
  obtain ⟨l, xs, y, rfl, rfl, hH, hz, q⟩ := h
  cases rx
  obtain ⟨u, rfl, ru⟩ := rv.one
  obtain ⟨z, its, n, r, hl, e⟩ := I.lstM hH
  refine call_meets F.slot_list_append ⟨_, e, rfl⟩ F.entry_list_append (F.args_list_append_2 _ _) (PySem.list_append l its.toArray n u (by rw [List.size_toArray]; omega)) ⟨e, ?_⟩
  refine ⟨.non, _, I.lset (its' := its ++ [u]) hH e (by simp) (r.append (.cons ru .nil)) ?_, rfl, q⟩
  rw [List.length_append, List.length_singleton]
  omega
def rExtend : V → List V → Hp → VK → Prop := fun x vs H Q => ∃ l b xs zs, x = .ref l ∧ vs = [.ref b] ∧ H l = some (.lst xs) ∧ H b = some (.lst zs) ∧ xs.length + zs.length ≤ sizeLine ∧ Q .non (upd H l (.lst (xs ++ zs)))
theorem mt_extend : MtM X "list.extend" rExtend := by
  intro pins s σ H x vs v us Q I rx rv h
  obtain ⟨l, b, xs, zs, rfl, rfl, hH, hB, hz, q⟩ := h
  cases rx
  obtain ⟨u, rfl, ru⟩ := rv.one
  cases ru
  obtain ⟨z, its, n, r, hl, e⟩ := I.lstM hH
  obtain ⟨z2, its2, n2, r2, hl2, e2⟩ := I.lstM hB
  have hsz : its.toArray.size + its2.toArray.size ≤ sizeLine := by rw [List.size_toArray, List.size_toArray]; omega
  have hlong : ¬ (!its.toArray.isEmpty && Builtin.List.listTooLong (its.toArray.size + its2.toArray.size)) = true := by
    rw [notLongL hsz, Bool.and_false]
    exact Bool.false_ne_true
  refine call_meets F.slot_list_extend ⟨_, e, rfl⟩ F.entry_list_extend (F.args_list_extend_2 _ _)
    (AutoSeq1.list_extend_list_list_0 l its.toArray n b its2.toArray n2 hlong (by rw [List.size_toArray]; omega) (by omega)) ⟨e, e2, ?_⟩
  refine ⟨.non, _, I.lset (its' := its ++ its2) hH e (by simp) (r.append r2) ?_, rfl, q⟩
  rw [List.length_append]
  omega
/-! ### list + list, list += list, list * int -/
def rCat : R2 := fun x y H Q => ∃ l b xs zs, x = .ref l ∧ y = .ref b ∧ H l = some (.lst xs) ∧ H b = some (.lst zs) ∧ xs.length + zs.length ≤ sizeLine ∧ ∀ p, H p = none → Q (.ref p) (upd H p (.lst (xs ++ zs)))
theorem op_cat : OpR X (binaryOp .Add) rCat := by
  intro pins s σ H x y v u Q I rx ry h
  obtain ⟨l, b, xs, zs, rfl, rfl, hH, hB, hz, q⟩ := h
  cases rx
  cases ry
  obtain ⟨z, its, n, r, hl, e⟩ := I.lstM hH
  obtain ⟨z2, its2, n2, r2, hl2, e2⟩ := I.lstM hB
  refine PySem.P.add_list e e2 ?_ (by rw [List.size_toArray, List.size_toArray]; omega)
  have ea : its.toArray ++ its2.toArray = (its ++ its2).toArray := by simp
  rw [ea]
  exact ⟨.ref _, _, I.lnew (t' := s.toks) (r.append r2) (by rw [List.length_append]; omega), rfl, q _ I.fresh⟩
/-! ### del xs[i] -/
end
/-! ### xs[a:b] = ys -/
section
variable {prog : Program} {w : World} {A : Around} {E : Value → Shared → Prop} {s : Shared}
set_option maxRecDepth 100000 in
end
section
variable {X : Cx}
end
end L2
namespace L2
open PySem PySem.Spec PyProof.Rows
theorem Vals.ints : ∀ {ns : List Int} {us : List Value}, Vals (ns.map V.int) us → IntsAre us ns
  | [], us, h => by
    rw [List.map_nil] at h
    cases h
    exact IntsAre.nil
  | n :: ns, us, h => by
    rw [List.map_cons] at h
    cases h with
    | cons r t =>
      obtain ⟨k, rfl⟩ := r
      exact IntsAre.cons n k (Vals.ints t)
theorem Vals.bls : ∀ {bs : List Bool} {us : List Value}, Vals (bs.map V.bl) us → us = bs.map Value.bool
  | [], us, h => by
    rw [List.map_nil] at h
    cases h
    rfl
  | b :: bs, us, h => by
    rw [List.map_cons] at h
    cases h with
    | cons r t =>
      cases r
      rw [Vals.bls t, List.map_cons]
theorem Vals.ref1 {a : Addr} {us : List Value} (r : Vals [V.ref a] us) : us = [Value.ref a] := by
  cases r with
  | cons r t =>
    cases t
    cases r
    rfl
/-! ### the library's walks over a list of ints, kept objects alone -/
section
variable {prog : Program} {w : World} {A : Around} {E : Value → Shared → Prop} {s : Shared} {l : Addr} {its : List Value} {ns : List Int} {Q : Value → Shared → Prop}
theorem sum_raw (hh : A.handled = none) (hl : s.heap.IsList l its.toArray) (hi : IntsAre its ns)
    (h : ∀ h' tk t', (∀ b o, s.heap.get? b = some o → h'.get? b = some o) → Q (.int ns.sum t') { s with heap := h', toks := tk }) : wpAny (model prog w) A (call (.builtin "sum") [.ref l]) Q E s := by
  obtain ⟨xs, e⟩ := hi.allInts.items
  have hn : numsOf (intItems xs).toList = ns := by rw [← e]; exact hi.numsOf
  rw [nums_intItems] at hn
  rw [e] at hl
  refine PySem.sum_intListG hh hl fun h' tk t' hk => ?_
  have := h h' tk t' hk
  rw [preSum_eq, List.take_of_length_le (by simp), hn]; exact this
theorem max_raw (hh : A.handled = none) (hl : s.heap.IsList l its.toArray) (hi : IntsAre its ns) (hne : 0 < ns.length)
    (h : ∀ h' tk M t', (∀ b o, s.heap.get? b = some o → h'.get? b = some o) → M ∈ ns → (∀ a, a ∈ ns → a ≤ M) → Q (.int M t') { s with heap := h', toks := tk }) : wpAny (model prog w) A (call (.builtin "max") [.ref l]) Q E s := by
  obtain ⟨xs, e⟩ := hi.allInts.items
  have hn : numsOf (intItems xs).toList = ns := by rw [← e]; exact hi.numsOf
  rw [nums_intItems] at hn
  subst hn
  rw [e] at hl
  have hsz : 0 < xs.size := by simpa using hne
  refine PySem.max_intList hh hl hsz fun v h' tk hv hk => ?_
  obtain ⟨t, rfl⟩ := intItems_at hv
  obtain ⟨h1, h2⟩ := argBest_gt (numAt xs) (xs.size - 1)
  refine h h' tk _ t hk ?_ fun a ha => ?_
  · rw [numAt_eq]; exact PySem.getD_mem (by rw [List.length_map, Array.length_toList]; omega)
  · obtain ⟨j, hj, rfl⟩ := mem_getD ha
    rw [List.length_map, Array.length_toList] at hj
    rw [← numAt_eq]; exact h2 j (by omega)
theorem min_raw (hh : A.handled = none) (hl : s.heap.IsList l its.toArray) (hi : IntsAre its ns) (hne : 0 < ns.length)
    (h : ∀ h' tk M t', (∀ b o, s.heap.get? b = some o → h'.get? b = some o) → M ∈ ns → (∀ a, a ∈ ns → M ≤ a) → Q (.int M t') { s with heap := h', toks := tk }) : wpAny (model prog w) A (call (.builtin "min") [.ref l]) Q E s := by
  obtain ⟨xs, e⟩ := hi.allInts.items
  have hn : numsOf (intItems xs).toList = ns := by rw [← e]; exact hi.numsOf
  rw [nums_intItems] at hn
  subst hn
  rw [e] at hl
  have hsz : 0 < xs.size := by simpa using hne
  refine PySem.min_intList hh hl hsz fun v h' tk hv hk => ?_
  obtain ⟨t, rfl⟩ := intItems_at hv
  obtain ⟨h1, h2⟩ := argBest_lt (numAt xs) (xs.size - 1)
  refine h h' tk _ t hk ?_ fun a ha => ?_
  · rw [numAt_eq]; exact PySem.getD_mem (by rw [List.length_map, Array.length_toList]; omega)
  · obtain ⟨j, hj, rfl⟩ := mem_getD ha
    rw [List.length_map, Array.length_toList] at hj
    rw [← numAt_eq]; exact h2 j (by omega)
end
/-! ### the calls, by values (CallR of 03t; MtR of 06l) -/
section
variable {X : Cx}
/-- sum(xs) of a list of ints -/
def rSum (K : PySem.W.Frag) : List V → Hp → VK → Prop := fun vs H Q => ∃ (a : Addr) (ns : List Int), vs = [V.ref a] ∧ SqL K H a (ns.map V.int) ∧ Q (.int ns.sum) H
/-- max(xs), min(xs) of a list of ints -/
def rMax (K : PySem.W.Frag) : List V → Hp → VK → Prop := fun vs H Q => ∃ (a : Addr) (ns : List Int), vs = [V.ref a] ∧ SqL K H a (ns.map V.int) ∧ 0 < ns.length ∧ ∀ m, m ∈ ns → (∀ y, y ∈ ns → y ≤ m) → Q (.int m) H
def rMin (K : PySem.W.Frag) : List V → Hp → VK → Prop := fun vs H Q => ∃ (a : Addr) (ns : List Int), vs = [V.ref a] ∧ SqL K H a (ns.map V.int) ∧ 0 < ns.length ∧ ∀ m, m ∈ ns → (∀ y, y ∈ ns → m ≤ y) → Q (.int m) H
theorem cr_sum (hc : X.calm = true) : CallR X (.builtin "sum") (rSum X.K) := by
  intro pins s σ H vs us Q I r h
  obtain ⟨a, ns, rfl, hs, q⟩ := h
  obtain ⟨its, rv, hl, _⟩ := I.list hs
  rw [Vals.ref1 r]
  exact sum_raw (I.ok.hd hc) hl.isList rv.ints fun h' tk t' hk => ⟨.int _, H, I.kept hk, ⟨_, rfl⟩, q⟩
theorem cr_max (hc : X.calm = true) : CallR X (.builtin "max") (rMax X.K) := by
  intro pins s σ H vs us Q I r h
  obtain ⟨a, ns, rfl, hs, hne, q⟩ := h
  obtain ⟨its, rv, hl, _⟩ := I.list hs
  rw [Vals.ref1 r]
  exact max_raw (I.ok.hd hc) hl.isList rv.ints hne fun h' tk m t' hk h1 h2 => ⟨.int _, H, I.kept hk, ⟨_, rfl⟩, q m h1 h2⟩
theorem cr_min (hc : X.calm = true) : CallR X (.builtin "min") (rMin X.K) := by
  intro pins s σ H vs us Q I r h
  obtain ⟨a, ns, rfl, hs, hne, q⟩ := h
  obtain ⟨its, rv, hl, _⟩ := I.list hs
  rw [Vals.ref1 r]
  exact min_raw (I.ok.hd hc) hl.isList rv.ints hne fun h' tk m t' hk h1 h2 => ⟨.int _, H, I.kept hk, ⟨_, rfl⟩, q m h1 h2⟩
/-! sorted, sort (fewer than 64 items: the library's own bound) -/
end
/-! ### list.index, flat items -/
section
variable {X : Cx}
def rIndex (K : PySem.W.Frag) : V → List V → Hp → VK → Prop := fun x xs H Q => ∃ (a : Addr) (ys : List V) (y : V) (j : Nat) (z : V), x = V.ref a ∧ xs = [y] ∧ SqL K H a ys ∧ flatV y = true ∧ ys.all flatV = true ∧ ys[j]? = some z ∧ eqV z y = true ∧
  (∀ (m : Nat) (z' : V), m < j → ys[m]? = some z' → eqV z' y = false) ∧ Q (.int (j : Nat)) H
theorem flat_at {ys : List V} (f : ys.all flatV = true) {j : Nat} {z : V} (h : ys[j]? = some z) : flatV z = true := List.all_eq_true.mp f z (List.mem_of_getElem? h)
theorem mt_index : MtR X "list.index" (rIndex X.K) := by
  intro pins s σ H x xs v us Q I rx rxs h
  obtain ⟨a, ys, y, j, z, rfl, rfl, hs, fy, fys, hz, hzj, hno, q⟩ := h
  cases rx
  cases rxs with
  | cons ry rt =>
    rename_i uy ut
    cases rt
    obtain ⟨its, rv, ⟨⟨cls, dd, data, sl⟩, n, ho, hc, hdn, hd⟩, hlen⟩ := I.list hs
    simp only at hc hd
    subst hc hd
    obtain ⟨u, hu, ru⟩ := rv.get hz
    obtain ⟨hjl, hje⟩ := List.getElem?_eq_some_iff.mp hu
    have hvl := rv.length
    have hj : j < its.toArray.size := by simpa using hjl
    have hsl := sizeLine_eq
    refine call_meets PySem.F.slot_list_index ⟨_, ho, rfl⟩ PySem.F.entry_list_index (PySem.F.args_list_index_2 _ _)
      (SeqAt.list_indexAt a its.toArray n dd sl uy (eqU y) j hj (by omega) ?_ ?_) ⟨ho, fun u' hu' => mem_eqAt ry fy rv fys u' (by simpa using hu'), ?_⟩
    · have e1 : its.toArray[j] = u := by simpa using hje
      rw [e1, eqU_of ru (flat_at fys hz)]
      exact hzj
    · intro m hm hmj
      have hml : m < its.length := by simpa using hm
      have hmy : m < ys.length := by omega
      have hy' : ys[m]? = some ys[m] := List.getElem?_eq_getElem hmy
      obtain ⟨u2, hu2, ru2⟩ := rv.get hy'
      obtain ⟨_, hme⟩ := List.getElem?_eq_some_iff.mp hu2
      have e1 : its.toArray[m] = u2 := by simpa using hme
      rw [e1, eqU_of ru2 (flat_at fys hy')]
      exact hno m _ hmj hy'
    · exact ⟨.int (j : Nat), H, I.tok _, ⟨_, rfl⟩, q⟩
end
/-! ### type(x) of an own instance; is, is not of a module's class -/
section
variable {X : Cx}
end
/-! ### any(xs), all(xs) of a list of bools -/
theorem iter_any {prog : Program} {w : World} {A : Around} {E : Value → Shared → Prop} {s : Shared} {l : Addr} {items : Array Value} {Q : Value → Shared → Prop} (hl : s.heap.IsList l items)
    (h : ∀ s₂ : Shared, s₂ = { s with heap := s.heap.push { cls := .type "list_iterator", data := .fields #[.ref l, .int 0 0] } } →
      (s₂.heap.IsListIter s.heap.objs.size l 0 ∧ s₂.heap.IsList l items) → l ≠ s.heap.objs.size → Q (.ref s.heap.objs.size) s₂) : wpAny (model prog w) A (pyIter (.ref l)) Q E s := by
  have hlt : l < s.heap.objs.size := by obtain ⟨_, e, _⟩ := hl; exact Heap.lt_size e
  exact wpAny_pyIter_list hl (h _ rfl ⟨⟨_, Heap.get?_push_size _ rfl, rfl, rfl⟩, hl.push _⟩ (Nat.ne_of_lt hlt))
theorem truth_bools {prog : Program} {w : World} {A : Around} {bs : List Bool} {its : List Value} (e : its = bs.map Value.bool) :
    TruthOf prog w A (fun i v => its.toArray[i]? = some v) (fun i => bs.getD i false) := fun i v s Q E hv hq => by
  have hv' : its[i]? = some v := by simpa using hv
  rw [e, List.getElem?_map] at hv'
  obtain ⟨b, hb, rfl⟩ := Option.map_eq_some_iff.mp hv'
  have hg : bs.getD i false = b := by rw [List.getD_eq_getElem?_getD, hb] <;> rfl
  have hq' : Q (bs.getD i false) s := hq
  rw [hg] at hq'
  exact wpAny_truthy_bool hq'
theorem all_range : ∀ bs : List Bool, (List.range bs.length).all (fun i => bs.getD i false) = bs.all id
  | [] => rfl
  | b :: bs => by
    rw [List.length_cons, List.range_succ_eq_map, List.all_cons, List.all_map, List.all_cons, ← all_range bs]
    all_goals rfl
section
variable {X : Cx}
def rAll (K : PySem.W.Frag) : List V → Hp → VK → Prop := fun vs H Q => ∃ (a : Addr) (bs : List Bool), vs = [V.ref a] ∧ SqL K H a (bs.map V.bl) ∧ Q (.bl (bs.all id)) H
theorem cr_all (hc : X.calm = true) : CallR X (.builtin "all") (rAll X.K) := by
  intro pins s σ H vs us Q I r h
  obtain ⟨a, bs, rfl, hs, q⟩ := h
  obtain ⟨its, rv, hl, _⟩ := I.list hs
  rw [Vals.ref1 r]
  have hb := rv.bls
  refine call_all_walk (iter_any hl.isList fun s₂ e2 st hne => ?_)
  subst e2
  refine ⟨_, _, _, _, _, _, _, rfl, Walks.list (A := X.A.in1) (I.ok.hd hc) _ a hne its.toArray, st, truth_bools hb, fun h' tk hk => ?_⟩
  refine ⟨.bl _, H, I.kept fun b o eo => hk b o (fun hmem => ?_) (Heap.get?_push_of_some _ eo), ?_, q⟩
  · rcases List.mem_cons.mp hmem with e1 | hmem
    · exact absurd (e1 ▸ Heap.lt_size eo) (Nat.lt_irrefl _)
    · cases hmem
  · show Value.bool _ = Value.bool _
    rw [← all_range, hb, List.size_toArray, List.length_map]
end
/-! ### == and != of data at any depth: none, bools, ints, texts, lists, tuples -/
section
variable {X : Cx} {pins : List (Addr × Obj)} {σ : St} {H : Hp} {s : Shared}
end
section
variable {X : Cx}
end
end L2
namespace L2
open PySem PySem.Spec PyProof.Rows
abbrev CellAt (h : Heap) (c : Addr) (v : Option Value) : Prop := h.IsCell c v
def relS (scope sc : Scope) : Scope :=
  { scope with names := scope.names.map fun (n, k) => if (k == .free && sc.kind == .function && sc.names.lookup n == some .cell) then (n, .cell) else (n, k) }
def cloFrom (cells : List (Str × Addr)) : List (Str × NameKind) → List (Str × Addr) → List (Str × Addr)
  | [], acc => acc
  | (n, k) :: r, acc => if k == .free then cloFrom cells r ((n, (cells.lookup n).getD 0) :: acc) else cloFrom cells r acc
theorem closure_loop (env : Env) (f : Str × NameKind → List (Str × Addr) → Sem (ForInStep (List (Str × Addr))))
    (hf : ∀ n k c, f (n, k) c = if k == .free then (do let a ← cellOf env n; pure (.yield ((n, a) :: c))) else pure (.yield c)) :
    ∀ (names : List (Str × NameKind)) (acc : List (Str × Addr)), (∀ y ∈ names, y.2 = .free → ∃ c, env.cells.lookup y.1 = some c) → forIn names acc f = pure (cloFrom env.cells names acc)
  | [], acc, _ => by rw [List.forIn_nil]; rfl
  | (n, k) :: r, acc, h => by
    rw [List.forIn_cons, hf]
    have ih := fun acc => closure_loop env f hf r acc fun y hy => h y (List.mem_cons_of_mem _ hy)
    unfold cloFrom
    by_cases hk : (k == NameKind.free) = true
    · rw [if_pos hk, if_pos hk]
      obtain ⟨c, hc⟩ := h (n, k) List.mem_cons_self (by simpa using hk)
      have e : cellOf env n = pure c := by unfold cellOf; rw [hc]
      rw [e]
      have e2 : (env.cells.lookup n).getD 0 = c := by rw [hc]; rfl
      rw [e2]
      exact ih _
    · rw [if_neg hk, if_neg hk]
      exact ih _
theorem closure_ok {scope : Scope} {env : Env} (h : ∀ y ∈ scope.names, y.2 = .free → ∃ c, env.cells.lookup y.1 = some c) : closureFor scope env = pure (cloFrom env.cells scope.names []) := by
  simp only [closureFor]
  rw [closure_loop env _ (fun n k c => rfl) scope.names [] h]
  rfl
theorem mem_lookup {α : Type} : ∀ {l : List (Str × α)} {n : Str} {c : α}, (n, c) ∈ l → ∃ c', l.lookup n = some c'
  | (k, v) :: r, n, c, h => by
    rw [List.lookup_cons]
    cases hb : n == k with
    | true => exact ⟨_, rfl⟩
    | false =>
      rcases List.mem_cons.mp h with e | h
      · cases e; simp at hb
      · exact mem_lookup h
theorem cloFrom_mem {cells : List (Str × Addr)} : ∀ {names : List (Str × NameKind)} {acc : List (Str × Addr)} {n : Str} {c : Addr}, (n, c) ∈ cloFrom cells names acc → (n, c) ∈ acc ∨ ((n, .free) ∈ names ∧ c = (cells.lookup n).getD 0)
  | [], _, _, _, h => .inl h
  | (m, k) :: r, acc, n, c, h => by
    unfold cloFrom at h
    split at h
    · rename_i hk
      have hk : k = .free := by simpa using hk
      rcases cloFrom_mem h with h | ⟨h1, h2⟩
      · rcases List.mem_cons.mp h with e | h
        · cases e; exact .inr ⟨hk ▸ List.mem_cons_self, rfl⟩
        · exact .inl h
      · exact .inr ⟨List.mem_cons_of_mem _ h1, h2⟩
    · rcases cloFrom_mem h with h | ⟨h1, h2⟩
      · exact .inl h
      · exact .inr ⟨List.mem_cons_of_mem _ h1, h2⟩
theorem cloFrom_acc {cells : List (Str × Addr)} : ∀ {names : List (Str × NameKind)} {acc : List (Str × Addr)} {p : Str × Addr}, p ∈ acc → p ∈ cloFrom cells names acc
  | [], _, _, h => h
  | (m, k) :: r, acc, p, h => by
    unfold cloFrom
    split
    · exact cloFrom_acc (List.mem_cons_of_mem _ h)
    · exact cloFrom_acc h
theorem cloFrom_has {cells : List (Str × Addr)} : ∀ {names : List (Str × NameKind)} {acc : List (Str × Addr)} {n : Str}, (n, .free) ∈ names → (n, (cells.lookup n).getD 0) ∈ cloFrom cells names acc
  | (m, k) :: r, acc, n, h => by
    unfold cloFrom
    rcases List.mem_cons.mp h with e | h
    · cases e
      exact cloFrom_acc List.mem_cons_self
    · split
      · exact cloFrom_has h
      · exact cloFrom_has h
theorem cells_mem : ∀ {names : List (Str × NameKind)} {h : Heap} {acc : List (Str × Addr)} {x : Str} {c : Addr}, (x, c) ∈ cellsFrom h.objs.size names acc →
    (x, c) ∈ acc ∨ ((x, .cell) ∈ names ∧ h.objs.size ≤ c ∧ CellAt (pushCells h names) c none)
  | [], _, _, _, _, h => .inl h
  | (n, k) :: r, h, acc, x, c, hm => by
    unfold cellsFrom at hm
    unfold pushCells
    split at hm
    · rename_i hk
      rw [if_pos hk]
      have hk : k = .cell := by simpa using hk
      rw [← Heap.size_push h { cls := .type "cell", data := .cell none }] at hm
      rcases cells_mem hm with hm | ⟨h1, h2, h3⟩
      · rcases List.mem_cons.mp hm with e | hm
        · cases e
          exact .inr ⟨hk ▸ List.mem_cons_self, Nat.le_refl _, _, pushCells_keeps r _ _ _ (Heap.get?_push_size _ rfl), rfl⟩
        · exact .inl hm
      · rw [Heap.size_push] at h2
        exact .inr ⟨List.mem_cons_of_mem _ h1, Nat.le_of_succ_le h2, h3⟩
    · rename_i hk
      rw [if_neg hk]
      rcases cells_mem hm with hm | ⟨h1, h2, h3⟩
      · exact .inl hm
      · exact .inr ⟨List.mem_cons_of_mem _ h1, h2, h3⟩
theorem cells_acc : ∀ {names : List (Str × NameKind)} {n : Nat} {acc : List (Str × Addr)} {p : Str × Addr}, p ∈ acc → p ∈ cellsFrom n names acc
  | [], _, _, _, h => h
  | (m, k) :: r, n, acc, p, h => by
    unfold cellsFrom
    split
    · exact cells_acc (List.mem_cons_of_mem _ h)
    · exact cells_acc h
theorem cells_has : ∀ {names : List (Str × NameKind)} {n : Nat} {acc : List (Str × Addr)} {x : Str}, (x, .cell) ∈ names → ∃ c, (x, c) ∈ cellsFrom n names acc
  | (m, k) :: r, n, acc, x, h => by
    unfold cellsFrom
    rcases List.mem_cons.mp h with e | h
    · cases e
      exact ⟨n, cells_acc List.mem_cons_self⟩
    · split
      · exact cells_has h
      · exact cells_has h
theorem cells_inj : ∀ {names : List (Str × NameKind)} {h : Heap} {acc : List (Str × Addr)} {x y : Str} {c : Addr}, (∀ p ∈ acc, p.2 < h.objs.size) → (∀ x y c, (x, c) ∈ acc → (y, c) ∈ acc → x = y) →
    (x, c) ∈ cellsFrom h.objs.size names acc → (y, c) ∈ cellsFrom h.objs.size names acc → x = y
  | [], _, _, _, _, _, _, hi, h1, h2 => hi _ _ _ h1 h2
  | (n, k) :: r, h, acc, x, y, c, hl, hi, h1, h2 => by
    unfold cellsFrom at h1 h2
    split at h1
    · rename_i hk
      rw [if_pos hk] at h2
      rw [← Heap.size_push h { cls := .type "cell", data := .cell none }] at h1 h2
      refine cells_inj (h := h.push _) (fun p hp => ?_) (fun x y c a b => ?_) h1 h2
      · rw [Heap.size_push]
        rcases List.mem_cons.mp hp with rfl | hp
        · exact Nat.lt_succ_self _
        · exact Nat.lt_succ_of_lt (hl p hp)
      · rcases List.mem_cons.mp a with e | a <;> rcases List.mem_cons.mp b with e' | b
        · cases e; cases e'; rfl
        · cases e; exact absurd (hl _ b) (Nat.lt_irrefl _)
        · cases e'; exact absurd (hl _ a) (Nat.lt_irrefl _)
        · exact hi _ _ _ a b
    · rename_i hk
      rw [if_neg hk] at h2
      exact cells_inj hl hi h1 h2
theorem newEnv_comp {M : Model} {A : Around} {E : Value → Shared → Prop} {s : Shared} {scope : Scope} {globals : Addr} {closure : List (Str × Addr)} {qual : Str} {func : Option Addr} {code : Value} {around : Env} {builtins : Addr} {Q : Env → Shared → Prop}
    (h : Q (newEnv scope s.heap.objs.size globals (cellsFrom (s.heap.objs.size + 1) scope.names closure) qual func code (some around) builtins)
      { s with heap := pushCells (s.heap.push { cls := .type "dict", data := .dict #[] }) scope.names }) :
    wpAny M A (newFunctionEnv scope globals closure [] qual func code (some around) builtins) Q E s := by
  simp only [newFunctionEnv, Option.isSome_some, if_true]
  refine wpAny_bind (wpAny_alloc ?_)
  refine wpAny_bind (wpAny_layCells _ (fun n k c => rfl) scope.names closure _ _ ?_)
  rw [show ({ s with heap := s.heap.push { cls := .type "dict", data := .dict #[] } } : Shared).heap.objs.size = s.heap.objs.size + 1 from Heap.size_push ..]
  rw [List.forIn_nil]
  exact wpAny_bind (wpAny_pure (wpAny_pure h))
/-- every name of the written scope, in the scope that runs -/
theorem lookup_relS {sc : Scope} : ∀ {names : List (Str × NameKind)} {x : Str} {k : NameKind},
    (names.map fun (n, k) => if (k == NameKind.free && sc.kind == .function && sc.names.lookup n == some .cell) then (n, NameKind.cell) else (n, k)).lookup x = some k →
    ∃ k', names.lookup x = some k' ∧ (k = k' ∨ (k' = .free ∧ k = .cell))
  | [], _, _, h => by simp at h
  | (n, k₀) :: r, x, k, h => by
    have ih := @lookup_relS sc r x k
    have h' : List.lookup x ((if (k₀ == NameKind.free && sc.kind == .function && sc.names.lookup n == some .cell) = true then (n, NameKind.cell) else (n, k₀)) :: (r.map _)) = some k := h
    cases hx : x == n with
    | true =>
      simp only [List.lookup_cons, hx]
      by_cases hc : (k₀ == NameKind.free && sc.kind == .function && sc.names.lookup n == some .cell) = true
      · rw [if_pos hc] at h'
        simp only [List.lookup_cons, hx] at h'
        cases h'
        simp only [Bool.and_eq_true, beq_iff_eq] at hc
        exact ⟨k₀, rfl, .inr ⟨hc.1.1, rfl⟩⟩
      · rw [if_neg hc] at h'
        simp only [List.lookup_cons, hx] at h'
        cases h'
        exact ⟨_, rfl, .inl rfl⟩
    | false =>
      simp only [List.lookup_cons, hx]
      by_cases hc : (k₀ == NameKind.free && sc.kind == .function && sc.names.lookup n == some .cell) = true
      · rw [if_pos hc] at h'
        simp only [List.lookup_cons, hx] at h'
        exact ih h'
      · rw [if_neg hc] at h'
        simp only [List.lookup_cons, hx] at h'
        exact ih h'
/-- the names of a comprehension's block: its own (with their places in N), or captured -/
structure BlkOk (N : List Str) (sc scope : Scope) (own : List (Str × Nat)) : Prop where
  kind : scope.kind = .function
  uniq : ∀ y ∈ scope.names, scope.names.lookup y.1 = some y.2
  ix : ∀ p ∈ own, N[p.2]? = some p.1
  free : ∀ y ∈ scope.names, y.2 = .free → sc.names.lookup y.1 = some .cell ∨ sc.names.lookup y.1 = some .free
  own : ∀ y ∈ scope.names, y.2 = .local ∨ y.2 = .cell → y.1 ∈ own.map (·.1) ∨ y.1 ∉ N
/-- the slots of the block's own names forgotten -/
def wipe (σ : St) : List Nat → St
  | [] => σ
  | v :: vs => (wipe σ vs).set v none
theorem wipe_length (σ : St) : ∀ vs : List Nat, (wipe σ vs).length = σ.length
  | [] => rfl
  | v :: vs => by unfold wipe; rw [List.length_set, wipe_length σ vs]
theorem wipe_some {σ : St} {i : Nat} {x : V} : ∀ {vs : List Nat}, (wipe σ vs)[i]? = some (some x) → σ[i]? = some (some x) ∧ i ∉ vs
  | [], h => ⟨h, by simp⟩
  | v :: vs, h => by
    unfold wipe at h
    by_cases hi : v = i
    · subst hi
      by_cases hv : v < (wipe σ vs).length
      · rw [List.getElem?_set_self hv] at h; cases h
      · rw [List.getElem?_eq_none (by simpa using hv)] at h; cases h
    · rw [List.getElem?_set_ne hi] at h
      obtain ⟨h1, h2⟩ := wipe_some h
      exact ⟨h1, by simp only [List.mem_cons, not_or]; exact ⟨fun e => hi e.symm, h2⟩⟩
/-- the context of a block that starts at s, its iterator's objects at fp -/
abbrev Cx.blk (X : Cx) (s : Shared) (H : Hp) (scope : Scope) (cenv : Env) (fp : List Addr) : Cx := { X with s_0 := s, H_0 := H, env := cenv, outer := X.stack, ex := fp, fn := fun x => scope.names.lookup x == some .cell, pn := [], xe := fun _ _ => False }
section
variable {X : Cx} {pins : List (Addr × Obj)} {σ : St} {H : Hp} {s : Shared}
theorem block_start {scope : Scope} {own : List (Str × Nat)} {fp : List Addr} (I : Inv X pins σ H s) (ok : BlkOk X.N X.env.scope scope own) (hN : X.N.Nodup) (hfp : ∀ b ∈ fp, FpOk X pins H b ∧ b < s.heap.objs.size) :
    Inv (X.blk s H scope (compEnvC scope (cellsFrom (s.heap.objs.size + 1) scope.names (cloFrom X.env.cells scope.names [])) s.heap.objs.size X.env) fp) [] (wipe σ (own.map (·.2))) H { s with heap := pushCells (s.heap.push { cls := .type "dict", data := .dict #[] }) scope.names } := by
  have hfree : ∀ y ∈ scope.names, y.2 = .free → ∃ c, X.env.cells.lookup y.1 = some c := fun y hy e => by
    rcases ok.free y hy e with k | k
    · exact I.ok.has _ (.inl k)
    · exact I.ok.has _ (.inr k)
  generalize hcenv : compEnvC scope (cellsFrom (s.heap.objs.size + 1) scope.names (cloFrom X.env.cells scope.names [])) s.heap.objs.size X.env = cenv
  have kp : ∀ b o, s.heap.get? b = some o → (pushCells (s.heap.push { cls := .type "dict", data := .dict #[] }) scope.names).get? b = some o := fun b o e => pushCells_keeps _ _ _ _ (Heap.get?_push_of_some _ e)
  have hL : cenv.locals = s.heap.objs.size := by rw [← hcenv]; rfl
  have hcl : cenv.cells = cellsFrom (s.heap.objs.size + 1) scope.names (cloFrom X.env.cells scope.names []) := by rw [← hcenv]; rfl
  have hsc : cenv.scope = relS scope X.env.scope := by rw [← hcenv]; rfl
  rw [← Heap.size_push s.heap { cls := .type "dict", data := .dict #[] }] at hcl
  have cm : ∀ {y c}, (y, c) ∈ cloFrom X.env.cells scope.names [] → X.env.cells.lookup y = some c ∧ c < s.heap.objs.size := fun {y c} hm => by
    rcases cloFrom_mem hm with hm | ⟨h1, rfl⟩
    · cases hm
    · obtain ⟨c, hc⟩ := hfree _ h1 rfl
      rw [hc]
      obtain ⟨w, z⟩ := I.cell _ _ hc
      exact ⟨rfl, z.lt⟩
  have mem : ∀ {y c}, cenv.cells.lookup y = some c → (X.env.cells.lookup y = some c ∧ c < s.heap.objs.size) ∨ (s.heap.objs.size + 1 ≤ c ∧ CellAt (pushCells (s.heap.push { cls := .type "dict", data := .dict #[] }) scope.names) c none) := fun {y c} e => by
    rw [hcl] at e
    rcases cells_mem (PySem.mem_of_lookup e) with hm | ⟨_, h2, h3⟩
    · exact .inl (cm hm)
    · rw [Heap.size_push] at h2; exact .inr ⟨h2, h3⟩
  have look : ∀ {y}, scope.names.lookup y = some .free → ∃ c, cenv.cells.lookup y = some c ∧ X.env.cells.lookup y = some c := fun {y} hl => by
    have hy : (y, NameKind.free) ∈ scope.names := PySem.mem_of_lookup hl
    obtain ⟨c', e'⟩ := mem_lookup (cells_acc (names := scope.names) (n := (s.heap.push { cls := .type "dict", data := .dict #[] }).objs.size) (cloFrom_has (cells := X.env.cells) (acc := []) hy))
    rw [← hcl] at e'
    refine ⟨c', e', ?_⟩
    rw [hcl] at e'
    rcases cells_mem (PySem.mem_of_lookup e') with hm | ⟨h1, _, _⟩
    · exact (cm hm).1
    · have := ok.uniq _ h1
      rw [hl] at this; cases this
  have okB : (X.blk s H scope cenv fp).Ok := by
    refine ⟨I.ok.mod, by show cenv.scope.kind = _; rw [hsc]; exact ok.kind, by show cenv.globals = _; rw [← hcenv]; exact I.ok.glob, by show cenv.builtins = _; rw [← hcenv]; exact I.ok.blt, by show s.heap.objs.size ≤ cenv.locals; rw [hL]; exact Nat.le_refl _,
      fun y z c e1 e2 => ?_, fun y hy => ?_, fun y c z e => ?_, I.ok.hd, I.ok.frames, .inl rfl, fun b hb => ⟨?_, fun y c e z => ?_⟩, I.bs, Nat.le_trans I.ok.bsz I.sz, fun b o e hb => ?_, fun b hb z => ?_, I.stack, I.stkFree⟩
    · have e1 : cenv.cells.lookup y = some c := e1
      have e2 : cenv.cells.lookup z = some c := e2
      rw [hcl] at e1 e2
      refine cells_inj (fun p hp => ?_) (fun y z c a b => I.ok.inj y z c (cm a).1 (cm b).1) (PySem.mem_of_lookup e1) (PySem.mem_of_lookup e2)
      rw [Heap.size_push]
      exact Nat.lt_succ_of_lt (cm (y := p.1) (c := p.2) hp).2
    · show ∃ c, cenv.cells.lookup y = some c
      have key : ∀ k, cenv.kindOf y = some k → (k = .cell ∨ k = .free) → ∃ c, cenv.cells.lookup y = some c := fun k hk hk' => by
        unfold Env.kindOf at hk
        rw [hsc] at hk
        obtain ⟨k', e, r⟩ := lookup_relS hk
        have : k' = .cell ∨ k' = .free := by
          rcases r with rfl | ⟨rfl, _⟩
          · exact hk'
          · exact .inr rfl
        rcases this with rfl | rfl
        · obtain ⟨c, hm⟩ := cells_has (n := (s.heap.push { cls := .type "dict", data := .dict #[] }).objs.size) (acc := cloFrom X.env.cells scope.names []) (PySem.mem_of_lookup e)
          obtain ⟨c', e'⟩ := mem_lookup hm
          exact ⟨c', by rw [hcl]; exact e'⟩
        · obtain ⟨c, h1, _⟩ := look e
          exact ⟨c, h1⟩
      rcases hy with hy | hy
      · exact key _ hy (.inl rfl)
      · exact key _ hy (.inr rfl)
    · have z : (scope.names.lookup y == some NameKind.cell) = true := z
      have z : scope.names.lookup y = some .cell := by simpa using z
      have e : cenv.cells.lookup y = some c := e
      rw [hcl] at e
      rcases cells_mem (PySem.mem_of_lookup e) with hm | ⟨_, h2, _⟩
      · rcases cloFrom_mem hm with hm | ⟨h1, _⟩
        · cases hm
        · have q := ok.uniq _ h1
          rw [z] at q; cases q
      · rw [Heap.size_push] at h2
        exact Nat.le_of_succ_le h2
    · show b ≠ cenv.locals
      rw [hL]; exact Nat.ne_of_lt (hfp b hb).2
    · have e : cenv.cells.lookup y = some c := e
      rcases mem e with ⟨h1, _⟩ | ⟨h1, _⟩
      · exact (hfp b hb).1.2.2.2.2.1 y c h1 z
      · have h2 : s.heap.objs.size + 1 ≤ b := by rw [← z]; exact h1
        exact absurd (Nat.lt_of_lt_of_le (hfp b hb).2 (Nat.le_of_succ_le h2)) (Nat.lt_irrefl _)
    · rcases (hfp b hb).1.2.2.2.1 with z | z
      · exact I.ok.noex b o e z
      · exact absurd (Nat.lt_of_lt_of_le (Heap.lt_size e) (Nat.le_trans I.ok.bsz z)) (Nat.lt_irrefl _)
    · rcases List.mem_cons.mp (I.stkSub b z) with z | z
      · exact (hfp b hb).1.2.1 z
      · exact (hfp b hb).1.2.2.1 z
  refine ⟨okB, rfl, I.bare, Un.kept kp, ⟨fun _ => none, ?_, fun i y av e1 e2 e3 => ?_⟩, fun y c e => ?_, ?_, fun y c e => ?_, fun p hp => ?_, I.hok.kept kp, by rw [wipe_length]; exact I.len⟩
  · show Heap.Ns _ cenv.locals _
    rw [hL]
    exact Heap.Ns.keeps (Heap.Ns.new ..) fun b o e => pushCells_keeps _ _ _ _ e
  · obtain ⟨e2, hne⟩ := wipe_some e2
    have hfr : scope.names.lookup y = some .free ∧ (cenv.kindOf y = some .cell ∨ cenv.kindOf y = some .free) := by
      have key : ∀ k, cenv.scope.names.lookup y = some k → k = .local ∨ k = .cell ∨ k = .free → scope.names.lookup y = some .free ∧ (cenv.kindOf y = some .cell ∨ cenv.kindOf y = some .free) := fun k hk hk' => by
        have hk0 := hk
        rw [hsc] at hk
        obtain ⟨k', e, r⟩ := lookup_relS hk
        have no : ¬ (k' = .local ∨ k' = .cell) := fun hh => by
          rcases ok.own _ (PySem.mem_of_lookup e) hh with e' | e'
          · obtain ⟨p, hp, hpy⟩ := List.mem_map.mp e'
            have e3 := ok.ix p hp
            have : p.1 = y := hpy
            rw [this] at e3
            exact hne (List.mem_map.mpr ⟨p, hp, nodup_ix hN e3 e1⟩)
          · exact e' (List.mem_of_getElem? e1)
        rcases r with rfl | ⟨rfl, rfl⟩
        · rcases hk' with rfl | rfl | rfl
          · exact absurd (.inl rfl) no
          · exact absurd (.inr rfl) no
          · exact ⟨e, .inr hk0⟩
        · exact ⟨e, .inl hk0⟩
      have e3 : Vis cenv.scope y := e3
      rcases e3 with e3 | e3 | e3
      · exact key _ e3 (.inl rfl)
      · exact key _ e3 (.inr (.inl rfl))
      · exact key _ e3 (.inr (.inr rfl))
    obtain ⟨m, hn, hl⟩ := I.loc
    have hvis : Vis X.env.scope y := (ok.free _ (PySem.mem_of_lookup hfr.1) rfl).elim (fun k => .inr (.inl k)) (fun k => .inr (.inr k))
    obtain ⟨w, r, q⟩ := hl i y av e1 e2 hvis
    refine ⟨w, r, .inr ⟨hfr.2, ?_⟩⟩
    obtain ⟨c, h1, h2⟩ := look hfr.1
    rcases q with ⟨k, _⟩ | ⟨_, c', e', z⟩
    · have k : X.env.scope.names.lookup y = some .local := k
      rcases ok.free _ (PySem.mem_of_lookup hfr.1) rfl with k' | k' <;> rw [show X.env.scope.names.lookup y = _ from k'] at k <;> cases k
    · rw [h2] at e'; cases e'
      exact ⟨c, h1, z.keeps kp⟩
  · have e : cenv.cells.lookup y = some c := e
    rcases mem e with ⟨h1, _⟩ | ⟨_, z⟩
    · obtain ⟨w, z⟩ := I.cell y c h1
      exact ⟨w, z.keeps kp⟩
    · exact ⟨_, z⟩
  · show H cenv.locals = none
    rw [hL]; exact I.hok.fresh (Nat.le_refl _)
  · have e : cenv.cells.lookup y = some c := e
    rcases mem e with ⟨h1, _⟩ | ⟨h1, _⟩
    · exact I.freeC y c h1
    · exact I.hok.fresh (Nat.le_of_succ_le h1)
  · exact absurd (show p ∈ ([] : List (Addr × Obj)) ++ [] from hp) (by simp)
/-- an item appended to a tracked list -/
theorem app_ok {E : Value → Shared → Prop} {D : Addr} {xs : List V} {y : V} {v : Value} {Q : Value → Shared → Prop} (I : Inv X pins σ H s) (hD : H D = some (.lst xs)) (hz : xs.length < sizeLine) (r : RelV y v)
    (h : ∀ s', Inv X pins σ (upd H D (.lst (xs ++ [y]))) s' → Q .none s') : wpAny (model X.prog X.w) X.A (call (.builtin "list.append") [.ref D, v]) Q E s := by
  obtain ⟨hz', its, n, ri, e⟩ := I.hok D _ hD
  have hl := ri.length
  refine append_at (hsz := by rw [List.size_toArray]; omega) e fun h' sb ho' => ?_
  refine h { s with heap := h' } (I.write (t' := s.toks) (by rw [hD]; trivial) (.inl rfl) (fun b u hb q => (sb.2 b hb).trans q) ⟨_, ho'⟩ ⟨by rw [List.length_append]; exact hz, its ++ [v], n + 1, ri.append (.cons r .nil), ?_⟩)
  rw [ho']
  simp
/-- a clause's tests -/
def PTs (X : Cx) (ifs : List Expr) (t : TT) : Prop :=
  ∀ (pins : List (Addr × Obj)) (s : Shared) (σ : St) (H : Hp) (Q : Bool → Hp → Prop), Inv X pins σ H s → t σ H Q →
    wpAny (model X.prog X.w) X.A (forIn ifs true fun c r => if r = true then do let ok ← isTrue c X.env (eval c X.env); pure (ForInStep.yield ok) else pure (ForInStep.yield r)) (TP X pins σ Q) X.xe s
def tYes : TT := fun _ H Q => Q true H
theorem pts_nil : PTs X [] tYes := fun _ _ _ H _ I h => wpAny_tests_nil ⟨H, I, h⟩
theorem pts_one {c : Expr} {t : TT} (h : PT X c t) : PTs X [c] t := fun pins s σ H Q I hw => wpAny_tests_one (h pins s σ H Q I hw)
end
theorem thnF {α : Type} {t : Sem α} {Q Q' : α → Shared → Prop} {M : Model} {A : Around} {E : Value → Shared → Prop} {s : Shared} (h : wpAny M A t Q (fun _ _ => False) s) (hQ : ∀ a s, Q a s → Q' a s) : wpAny M A t Q' E s := wpAny_mono h hQ fun _ _ z => False.elim z
/-- the loop of a list comprehension's block, the target of any form (codeAny_compLoop_tests asks a target that no tuple goes to; statement and proof follow it, PyProof/CompMap.lean:41-61, with the step letOwnedTupleGo kept) -/
theorem compLoop_any {prog : Program} {w : World} {A : Around} {R : Result → Shared → Prop} {s : Shared} {elt target iter : Expr} {ifs : List Expr} {scope : Scope} {pos : Pos} {it acc : Value} {env : Env} (I : Nat → Shared → Prop)
    (turn : ∀ n s, I n s → wpAny (model prog w) A (pyNext it) (fun r s₁ => match r with
      | none => R (.ok .next) s₁
      | some v => wpAny (model prog w) A (letOwnedTupleGo target it v) (fun _ s₁' => wpAny (model prog w) A (assign target env v) (fun _ s₂ =>
          wpAny (model prog w) A (forIn ifs true fun c r => if r = true then do let ok ← isTrue c env (eval c env); pure (ForInStep.yield ok) else pure (ForInStep.yield r)) (fun ok s₃ =>
            if ok = true then wpAny (model prog w) A (eval elt env) (fun x s₄ =>
              wpAny (model prog w) A (call (.builtin "list.append") [acc, x]) (fun _ s₅ => ∃ m, m < n ∧ I m s₅) (notedBy (model prog w) A env fun e s' => R (.error e) s') s₄) (notedBy (model prog w) A env fun e s' => R (.error e) s') s₃
            else ∃ m, m < n ∧ I m s₃) (notedBy (model prog w) A env fun e s' => R (.error e) s') s₂) (notedBy (model prog w) A env fun e s' => R (.error e) s') s₁') (notedBy (model prog w) A env fun e s' => R (.error e) s') s₁) (notedBy (model prog w) A env fun e s' => R (.error e) s') s)
    (n : Nat) (h : I n s) :
    codeAny (model prog w) A (.compLoop (.ListComp elt [⟨target, iter, ifs, 0⟩] scope pos) 0 it acc env) R s := by
  refine codeAny_loop rfl I (fun n s hI => ?_) n h
  show wpAny _ A ((compTurn (.ListComp elt [⟨target, iter, ifs, 0⟩] scope pos) 0 it acc env).onRaise (fun x => do noteFrame x env; theTreesLotGoes x)) _ _ s
  refine wpAny_noted ?_
  rw [compTurn_list]
  refine wpAny_bind (wpAny_standAt (wpAny_bind (wpAny_mono (turn n s hI) (fun r s₁ h₁ => ?_) fun _ _ h' => h')))
  cases r with
  | none => exact wpAny_pure h₁
  | some v =>
    refine wpAny_bind (wpAny_mono h₁ (fun _ s₁' h₁' => ?_) fun _ _ h' => h')
    refine wpAny_bind (wpAny_mono h₁' (fun _ s₂ h₂ => wpAny_bind (wpAny_mono h₂ (fun ok s₃ h₃ => ?_) fun _ _ h' => h')) fun _ _ h' => h')
    cases ok with
    | false => exact wpAny_pure ⟨rfl, h₃⟩
    | true =>
      exact wpAny_bind (wpAny_bind (wpAny_mono h₃ (fun x s₄ h₄ => wpAny_bind (wpAny_mono h₄ (fun _ s₅ h₅ => wpAny_pure (wpAny_pure ⟨rfl, h₅⟩)) fun _ _ h' => h')) fun _ _ h' => h'))
section
variable {X : Cx}
/-- [elt for target in iter if ..]: D the new list; W by the turn and a measure, Nx what a turn is to reach -/
def tLc (wi : TI) (g : TG) (tt : TT) (te : TE) (vs : List Nat) : TE := fun σ H Q => wi σ H fun J H1 => ∀ D, H1 D = none → ∃ W : Nat → Nat → Hp → Prop, (∃ m, W 0 m (upd H1 D (.lst []))) ∧ ∀ i m H, W i m H →
  (J.stop i H ∧ Q (.ref D) H) ∨ (J.go i H ∧ ∃ Nx : Hp → Prop, (∀ H', Nx H' → ∃ m', m' < m ∧ W (i + 1) m' H') ∧ ∀ x H', J.yld i H x H' → g x (wipe σ vs) H' fun σ2 H2 => wipe σ2 vs = wipe σ vs ∧ tt σ2 H2 fun b H3 =>
    if b = true then te σ2 H3 fun y H4 => ∃ acc, H4 D = some (.lst acc) ∧ acc.length < sizeLine ∧ Nx (upd H4 D (.lst (acc ++ [y]))) else Nx H3)
theorem lc_core {pins : List (Addr × Obj)} {s : Shared} {σ : St} {H : Hp} {Q : VK} {elt tg iter : Expr} {ifs : List Expr} {scope : Scope} {own : List (Str × Nat)} {pos pos' : Pos} {wi : TI} {g : TG} {tt : TT} {te : TE} {use : Option (Value → Sem Unit)} {Qf : Value → Shared → Prop}
    (hc : X.calm = true) (hN : X.N.Nodup) (I : Inv X pins σ H s) (hi : PI X tg iter wi) (ok : BlkOk X.N X.env.scope scope own)
    (hg : ∀ (s : Shared) (H : Hp) (C : Addr) (cl : List (Str × Addr)) (fp : List Addr), PG (X.blk s H scope (compEnvC scope cl C X.env) fp) tg g) (ht : ∀ (s : Shared) (H : Hp) (C : Addr) (cl : List (Str × Addr)) (fp : List Addr), PTs (X.blk s H scope (compEnvC scope cl C X.env) fp) ifs tt)
    (he : ∀ (s : Shared) (H : Hp) (C : Addr) (cl : List (Str × Addr)) (fp : List Addr), PE (X.blk s H scope (compEnvC scope cl C X.env) fp) elt te) (hs : ∀ x, foldedSetIterable iter X.env x = pure x)
    (h : tLc wi g tt te (own.map (·.2)) σ H Q)
    (hRR : ∀ D C s' m H', Inv X pins σ H' s' → Q (.ref D) H' → s'.heap.Ns C m → FpOk X pins H' C → compPost (model X.prog X.w) X.A X.xe use Qf (.ref D) C (.ok .next) s') :
    wpAny (model X.prog X.w) X.A (comprehension (.ListComp elt [⟨tg, iter, ifs, 0⟩] scope pos) scope X.env pos' (newList []) false (eval iter X.env) use) Qf X.xe s := by
  have hfree : ∀ y ∈ scope.names, y.2 = .free → ∃ c, X.env.cells.lookup y.1 = some c := fun y hy e => by
    rcases ok.free y hy e with k | k
    · exact I.ok.has _ (.inl k)
    · exact I.ok.has _ (.inr k)
  refine wpAny_comprehension_free (use := use) rfl hs (closure_ok hfree) ok.kind (fun y hy e => by rw [ok.uniq y hy, e])
    (thn (hi pins s σ H _ I h) fun xv s1 hx => thn hx fun itv s2 h2 => ?_)
  obtain ⟨it, fp, tn, J, H2, e, I2, T, st2, f2, q⟩ := h2
  subst e
  refine wpAny_newObj_type (newEnv_comp ?_) (by show 0 ≤ sizeLine; decide)
  generalize hD : s2.heap.objs.size = D
  have hDn : H2 D = none := I2.hok.fresh (Nat.le_of_eq hD)
  obtain ⟨W, ⟨m0, w0⟩, turn⟩ := q D hDn
  -- the new list
  generalize hs3 : ({ s2 with heap := s2.heap.push { cls := .type "list", data := .seq ([] : List Value).toArray } } : Shared) = s3
  have I3 : Inv X pins σ (upd H2 D (.lst [])) s3 := by
    rw [← hs3]
    refine I2.laid (t' := s2.toks) (fun b o e => Heap.get?_push_of_some _ e) (Nat.le_of_eq hD) ⟨Nat.zero_le _, [], 0, .nil, ?_⟩
    rw [← hD]
    exact Heap.get?_push_size _ rfl
  have h3 : s3.heap = s2.heap.push { cls := .type "list", data := .seq ([] : List Value).toArray } := by rw [← hs3]
  have sz : ∀ b ∈ fp, b < s2.heap.objs.size := fun b hb => by
    obtain ⟨o, e, _⟩ := T.obj _ _ st2 b hb
    exact Heap.lt_size e
  have f3 : ∀ b ∈ fp, FpOk X pins (upd H2 D (.lst [])) b ∧ b < s3.heap.objs.size := fun b hb => by
    have hlt := sz b hb
    refine ⟨⟨?_, (f2 b hb).2⟩, by rw [h3, Heap.size_push]; exact Nat.lt_succ_of_lt hlt⟩
    rw [upd_ne (by rw [← hD]; exact Nat.ne_of_lt hlt)]
    exact (f2 b hb).1
  have st3 : tn 0 s3.heap := T.keep _ _ _ st2 fun b _ o e => by rw [h3]; exact Heap.get?_push_of_some _ e
  have I4 := block_start I3 ok hN f3
  have pg := hg s3 (upd H2 D (.lst [])) s3.heap.objs.size (cellsFrom (s3.heap.objs.size + 1) scope.names (cloFrom X.env.cells scope.names [])) fp
  have pt := ht s3 (upd H2 D (.lst [])) s3.heap.objs.size (cellsFrom (s3.heap.objs.size + 1) scope.names (cloFrom X.env.cells scope.names [])) fp
  have pe := he s3 (upd H2 D (.lst [])) s3.heap.objs.size (cellsFrom (s3.heap.objs.size + 1) scope.names (cloFrom X.env.cells scope.names [])) fp
  show codeAny _ _ (.compStart (.ListComp elt [⟨tg, iter, ifs, 0⟩] scope pos) 0 (.ref it) (.ref D) (compEnvC scope (cellsFrom (s3.heap.objs.size + 1) scope.names (cloFrom X.env.cells scope.names [])) s3.heap.objs.size X.env)) (compPost (model X.prog X.w) X.A X.xe use Qf (.ref D) s3.heap.objs.size) { s3 with heap := pushCells (s3.heap.push { cls := .type "dict", data := .dict #[] }) scope.names }
  have nfp : ∀ b ∈ fp, (upd H2 D (.lst [])) b = none := fun b hb => (f3 b hb).1.1
  generalize hce : compEnvC scope (cellsFrom (s3.heap.objs.size + 1) scope.names (cloFrom X.env.cells scope.names [])) s3.heap.objs.size X.env = ce at I4 pg pt pe ⊢
  have cL : ce.locals = s3.heap.objs.size := by subst hce; rfl
  generalize hH3 : upd H2 D (.lst []) = H3 at I3 I4 pg pt pe w0 nfp f3
  generalize hs4 : ({ s3 with heap := pushCells (s3.heap.push { cls := .type "dict", data := .dict #[] }) scope.names } : Shared) = s4 at I4 ⊢
  have st4 : tn 0 s4.heap := T.keep _ _ _ st3 fun b _ o e => by rw [← hs4]; exact pushCells_keeps _ _ _ _ (Heap.get?_push_of_some _ e)
  have stat : ∀ {σ' : St} {H' : Hp} {s' : Shared}, Inv (X.blk s3 H3 scope ce fp) [] σ' H' s' → (∀ b ∈ fp, H' b = none) → ∀ b ∈ fp, FpOk (X.blk s3 H3 scope ce fp) [] H' b := fun {σ' H' s'} I' hn b hb =>
    ⟨hn b hb, (I'.ok.exf b hb).1, I'.ok.exfs b hb, .inl hb, fun x c e => (I'.ok.exf b hb).2 x c e, fun p hp => absurd (show p ∈ ([] : List (Addr × Obj)) ++ [] from hp) (by simp)⟩
  have loop : codeAny (model X.prog X.w) X.A (.compLoop (.ListComp elt [⟨tg, iter, ifs, 0⟩] scope pos) 0 (.ref it) (.ref D) ce) (compPost (model X.prog X.w) X.A X.xe use Qf (.ref D) s3.heap.objs.size) s4 := by
    refine compLoop_any (fun n s' => ∃ i H', Inv (X.blk s3 H3 scope ce fp) [] (wipe σ (own.map (·.2))) H' s' ∧ tn i s'.heap ∧ (∀ b ∈ fp, H' b = none) ∧ W i n H') ?_ m0 ⟨0, H3, I4, st4, nfp, w0⟩
    rintro n s5 ⟨i, H5, I5, st5, n5, w5⟩
    rcases turn i n H5 w5 with ⟨stop, qq⟩ | ⟨go, Nx, hNx, step⟩
    · have td := T.done (X.blk s3 H3 scope ce fp) rfl rfl rfl hc i [] s5 _ H5 (fun _ _ => False) I5 (stat I5 n5) st5 stop
      refine thnF td fun r s6 ⟨hr, I6⟩ => ?_
      subst hr
      -- back in the def's context
      have I7 : Inv X pins σ H5 s6 := I3.call' (ch := fp) I6.os I6.base I6.hok I6.bare fun b hb => ⟨(f3 b hb).1.2.2.2.1, (f3 b hb).1.2.1, (f3 b hb).1.2.2.2.2.1, (f3 b hb).1.2.2.2.2.2⟩
      have nC : H5 s3.heap.objs.size = none := by
        have z : H5 ce.locals = none := I6.free
        rw [cL] at z
        exact z
      obtain ⟨m, hn, _⟩ := I6.loc
      have hn : s6.heap.Ns ce.locals m := hn
      rw [cL] at hn
      exact hRR D s3.heap.objs.size s6 m H5 I7 qq hn (I3.fpOk (Nat.le_refl _) nC)
    · have ti := T.item (X.blk s3 H3 scope ce fp) rfl rfl rfl hc i [] s5 _ H5 (fun _ _ => False) I5 (stat I5 n5) st5 go
      refine thnF ti fun r s6 ⟨u, hr, h6⟩ => ?_
      subst hr
      refine thnF h6 fun _ s7 ⟨x, H7, I7, r7, y7, st7, n7⟩ => ?_
      have I7' := I7.pinned (stat I7 n7) (T.obj _ _ st7)
      refine thnF (pg _ s7 _ H7 x u _ I7' r7 (step x H7 y7)) fun _ s8 ⟨σ8, H8, I8, hw8, q8⟩ => ?_
      refine thnF (pt _ s8 σ8 H8 _ I8 q8) fun b s9 ⟨H9, I9, q9⟩ => ?_
      -- the turn's end
      have fin : ∀ {s' : Shared} {H' : Hp}, Inv (X.blk s3 H3 scope ce fp) ([] ++ pinsAt fp s7.heap) σ8 H' s' → Nx H' → ∃ m, m < n ∧ ∃ i H', Inv (X.blk s3 H3 scope ce fp) [] (wipe σ (own.map (·.2))) H' s' ∧ tn i s'.heap ∧ (∀ b ∈ fp, H' b = none) ∧ W i m H' := fun {s' H'} I' nx => by
        obtain ⟨m', hm, w'⟩ := hNx H' nx
        have pin' : ∀ b ∈ fp, ∀ o, s7.heap.get? b = some o → s'.heap.get? b = some o ∧ H' b = none := fun b hb o e =>
          let z := I'.pin (b, o) (List.mem_append_right _ (List.mem_append_right _ (mem_pinsAt hb e)))
          ⟨z.1, z.2.1⟩
        have hl : (wipe σ (own.map (·.2))).length = σ8.length := by rw [← hw8, wipe_length]
        refine ⟨m', hm, i + 1, H', (I'.unpinned (pins := [])).weak hl (fun j v e => ?_), T.keep _ _ _ st7 fun b hb o e => (pin' b hb o e).1, fun b hb => ?_, w'⟩
        · rw [← hw8] at e
          exact (wipe_some e).1
        · obtain ⟨o, e, _⟩ := T.obj _ _ st7 b hb
          exact (pin' b hb o e).2
      cases b with
      | false =>
        simp only [Bool.false_eq_true, if_false] at q9 ⊢
        exact fin I9 q9
      | true =>
        simp only [if_true] at q9 ⊢
        refine thnF (pe _ s9 σ8 H9 _ I9 q9) fun z s10 ⟨yv, H10, I10, r10, acc, hD10, hz10, nx⟩ => ?_
        exact app_ok (X := X.blk s3 H3 scope ce fp) I10 hD10 hz10 r10 fun s11 I11 => fin I11 nx
  exact codeAny_compStart_list loop (T.self X.A 0 _ _ _ st4 loop)
/-- as a value -/
theorem pe_lc {elt tg iter : Expr} {ifs : List Expr} {scope : Scope} {own : List (Str × Nat)} {pos : Pos} {wi : TI} {g : TG} {tt : TT} {te : TE} (hc : X.calm = true) (hN : X.N.Nodup) (hi : PI X tg iter wi) (ok : BlkOk X.N X.env.scope scope own)
    (hg : ∀ (s : Shared) (H : Hp) (C : Addr) (cl : List (Str × Addr)) (fp : List Addr), PG (X.blk s H scope (compEnvC scope cl C X.env) fp) tg g) (ht : ∀ (s : Shared) (H : Hp) (C : Addr) (cl : List (Str × Addr)) (fp : List Addr), PTs (X.blk s H scope (compEnvC scope cl C X.env) fp) ifs tt)
    (he : ∀ (s : Shared) (H : Hp) (C : Addr) (cl : List (Str × Addr)) (fp : List Addr), PE (X.blk s H scope (compEnvC scope cl C X.env) fp) elt te) (hs : ∀ x, foldedSetIterable iter X.env x = pure x := by intro _; rfl) :
    PE X (.ListComp elt [⟨tg, iter, ifs, 0⟩] scope pos) (tLc wi g tt te (own.map (·.2))) := by
  intro pins s σ H Q I h
  rw [eval_ListComp]
  refine lc_core hc hN I hi ok hg ht he hs h fun D C s' m H' I' q hn f => ⟨m, hn, fun h'' sb => ?_⟩
  obtain ⟨f0, f1, f2, f3, f4, f5⟩ := f
  exact ⟨.ref D, H', I'.turned (t' := s'.toks) (fun b o hb e => (sb.2 b hb).trans e) f0 f1 f3 f4 f5, rfl, q⟩
/-- name = [..] on one line, the name a local -/
theorem ps_setLc {i : Nat} {y : Str} {py : Pos} {elt tg iter : Expr} {ifs : List Expr} {scope : Scope} {own : List (Str × Nat)} {pos spos : Pos} {wi : TI} {g : TG} {tt : TT} {te : TE} (hc : X.calm = true) (hN : X.N.Nodup) (hy : X.N[i]? = some y) (hyl : X.env.scope.names.lookup y = some .local)
    (hsw : swapsWith (.ListComp elt [⟨tg, iter, ifs, 0⟩] scope pos) (some (.Name y py)) spos.line X.env = pure true) (hi : PI X tg iter wi) (ok : BlkOk X.N X.env.scope scope own)
    (hg : ∀ (s : Shared) (H : Hp) (C : Addr) (cl : List (Str × Addr)) (fp : List Addr), PG (X.blk s H scope (compEnvC scope cl C X.env) fp) tg g) (ht : ∀ (s : Shared) (H : Hp) (C : Addr) (cl : List (Str × Addr)) (fp : List Addr), PTs (X.blk s H scope (compEnvC scope cl C X.env) fp) ifs tt)
    (he : ∀ (s : Shared) (H : Hp) (C : Addr) (cl : List (Str × Addr)) (fp : List Addr), PE (X.blk s H scope (compEnvC scope cl C X.env) fp) elt te) (hs : ∀ x, foldedSetIterable iter X.env x = pure x := by intro _; rfl) :
    PS X (.Assign [.Name y py] (.ListComp elt [⟨tg, iter, ifs, 0⟩] scope pos) spos) (tAsg (tLc wi g tt te (own.map (·.2))) (gName i)) := by
  intro pins s σ H D I h
  rw [exec_Assign_Name_used _ _ _ _ hsw]
  refine wpAny_bind (wpAny_standAt (wpAny_bind ?_))
  show wpAny _ X.A (do let _ ← comprehension (.ListComp elt [⟨tg, iter, ifs, 0⟩] scope pos) scope X.env (firstIterPos [⟨tg, iter, ifs, 0⟩] pos) (newList []) false (eval iter X.env) (some (assign (.Name y py) X.env))) _ _ s
  have h : tLc wi g tt te (own.map (·.2)) σ H (fun x H1 => gName i x σ H1 D.nx) := h
  refine wpAny_bind (thn (lc_core (Qf := fun _ s' => SP X pins D .next s') hc hN I hi ok hg ht he hs h fun L C s' m H' I' q hn f => ?_) fun _ s' hq => wpAny_pure (wpAny_pure hq))
  show wpAny _ _ (assign (.Name y py) X.env (.ref L)) _ _ _
  refine wpAny_assign_Name (store_ok2 (v := V.ref L) I' hN hy (.inl hyl) rfl (fun s2 I2 ⟨a, sb, ha⟩ => ?_) (.inr hyl))
  obtain ⟨f0, f1, f2, f3, f4, f5⟩ := f
  have haC : C ≠ a := by
    rcases ha with z | z
    · rw [z]; exact f1
    · exact fun e => f4 y a z e.symm
  refine ⟨m, hn.sameBut sb haC, fun h3 sb3 => ?_⟩
  exact ⟨_, H', I2.turned (t' := s2.toks) (fun b o hb e => (sb3.2 b hb).trans e) f0 f1 f3 f4 f5, q⟩
theorem sw_true {elt : Expr} {gs : List Comprehension} {scope : Scope} {pos py : Pos} {y : Str} {l : Nat} {env : Env} (hk : env.scope.kind = .function) (hy : env.scope.names.lookup y = some .local) (hl : (py.line == pos.line) = true)
    (ha : (scope.names.any fun (n, k) => n == y && (k == .local || k == .cell)) = false) : swapsWith (.ListComp elt gs scope pos) (some (.Name y py)) l env = pure true := by
  have ky : env.kindOf y = some .local := hy
  have hb : env.blockKind = .function := by unfold Env.blockKind; rw [hk]; rfl
  unfold swapsWith
  simp only [hb, ky, ha, Expr.pos, hl]
  rfl
end
/-! ### the forms one uses -/
/-- over a list that the block leaves as it is -/
theorem lc_list {K : PySem.W.Frag} {a : Addr} {xs : List V} {g : TG} {tt : TT} {te : TE} {vs : List Nat} {σ : St} {H1 : Hp} {D : Addr} {Qd : Hp → Prop} (Pv : Nat → Hp → Prop) (h0 : Pv 0 (upd H1 D (.lst []))) (hl : ∀ i H, i ≤ xs.length → Pv i H → SqL K H a xs)
    (hs : ∀ i x H, xs[i]? = some x → Pv i H → g x (wipe σ vs) H fun σ2 H2 => wipe σ2 vs = wipe σ vs ∧ tt σ2 H2 fun b H3 =>
      if b = true then te σ2 H3 fun y H4 => ∃ acc, H4 D = some (.lst acc) ∧ acc.length < sizeLine ∧ Pv (i + 1) (upd H4 D (.lst (acc ++ [y]))) else Pv (i + 1) H3) (hd : ∀ H, Pv xs.length H → Qd H) :
    ∃ W : Nat → Nat → Hp → Prop, (∃ m, W 0 m (upd H1 D (.lst []))) ∧ ∀ i m H, W i m H →
      ((Itl K a).stop i H ∧ Qd H) ∨ ((Itl K a).go i H ∧ ∃ Nx : Hp → Prop, (∀ H', Nx H' → ∃ m', m' < m ∧ W (i + 1) m' H') ∧ ∀ x H', (Itl K a).yld i H x H' → g x (wipe σ vs) H' fun σ2 H2 => wipe σ2 vs = wipe σ vs ∧ tt σ2 H2 fun b H3 =>
        if b = true then te σ2 H3 fun y H4 => ∃ acc, H4 D = some (.lst acc) ∧ acc.length < sizeLine ∧ Nx (upd H4 D (.lst (acc ++ [y]))) else Nx H3) := by
  refine ⟨fun i m H => m = xs.length - i ∧ i ≤ xs.length ∧ Pv i H, ⟨xs.length, by simp, Nat.zero_le _, h0⟩, ?_⟩
  rintro i m H ⟨rfl, hi, p⟩
  have q := hl i H hi p
  by_cases hlt : i < xs.length
  · refine .inr ⟨⟨xs, xs[i], q, by simp [hlt]⟩, Pv (i + 1), fun H' p' => ⟨xs.length - (i + 1), by omega, rfl, hlt, p'⟩, fun x H' y => ?_⟩
    obtain ⟨e, y⟩ := y
    subst e
    exact hs i x _ (y xs q) p
  · have e : i = xs.length := by omega
    subst e
    exact .inl ⟨⟨xs, q, Nat.le_refl _⟩, hd H p⟩
def blkC (N : List Str) (sc scope : Scope) (own : List (Str × Nat)) : Bool :=
  (match scope.kind with | .function => true | _ => false) && (scope.names.all fun y => decide (scope.names.lookup y.1 = some y.2)) && (own.all fun p => decide (N[p.2]? = some p.1)) &&
    (scope.names.all fun y => match y.2 with
      | .free => (match sc.names.lookup y.1 with | some .cell => true | some .free => true | _ => false)
      | .local => decide (y.1 ∈ own.map (·.1)) || decide (y.1 ∉ N)
      | .cell => decide (y.1 ∈ own.map (·.1)) || decide (y.1 ∉ N)
      | _ => true)
theorem blkOk_by {N : List Str} {sc scope : Scope} {own : List (Str × Nat)} (h : blkC N sc scope own = true) : BlkOk N sc scope own := by
  unfold blkC at h
  simp only [Bool.and_eq_true, List.all_eq_true, decide_eq_true_eq] at h
  obtain ⟨⟨⟨h1, h2⟩, h3⟩, h4⟩ := h
  refine ⟨?_, h2, h3, fun y hy e => ?_, fun y hy e => ?_⟩
  · split at h1
    · assumption
    · cases h1
  · have q := h4 y hy
    simp only [e] at q
    split at q <;> first | exact .inl (by assumption) | exact .inr (by assumption) | cases q
  · have q := h4 y hy
    rcases e with e | e <;> (simp only [e, Bool.or_eq_true, decide_eq_true_eq] at q; exact q)
end L2
namespace L2
open PySem PySem.Spec PyProof.Rows
section
variable {prog : Program} {w : World} {A : Around} {R : Result → Shared → Prop} {s : Shared} {elt t0 i0 t1 i1 : Expr} {ifs0 ifs1 : List Expr} {scope : Scope} {pos : Pos} {it acc : Value} {env : Env}
end
section
variable {X : Cx}
end
end L2
namespace L2
open PySem PySem.Spec PyProof.Rows
/-! ### lists of pairs as tables -/
section
variable {κ : Type} [DecidableEq κ]
def valV (kvs : List (κ × V)) (k : κ) : Option V := (kvs.find? fun kv => decide (kv.1 = k)).map (·.2)
/-- in its place, or at the end -/
def putK (kvs : List (κ × V)) (k : κ) (v : V) : List (κ × V) :=
  if (kvs.any fun kv => decide (kv.1 = k)) = true then kvs.map (fun kv => if kv.1 = k then (kv.1, v) else kv) else kvs ++ [(k, v)]
def dropK (kvs : List (κ × V)) (k : κ) : List (κ × V) := kvs.filter fun kv => decide (kv.1 ≠ k)
theorem valV_pos {p : κ × V} {r : List (κ × V)} {k : κ} (e : p.1 = k) : valV (p :: r) k = some p.2 := by simp [valV, List.find?_cons, e]
theorem valV_neg {p : κ × V} {r : List (κ × V)} {k : κ} (e : ¬ p.1 = k) : valV (p :: r) k = valV r k := by simp [valV, List.find?_cons, e]
theorem valV_any (k : κ) : ∀ kvs : List (κ × V), (kvs.any fun kv => decide (kv.1 = k)) = (valV kvs k).isSome
  | [] => rfl
  | p :: r => by
    rw [List.any_cons]
    by_cases e : p.1 = k
    · simp only [valV_pos e, decide_eq_true e, Bool.true_or, Option.isSome_some]
    · rw [valV_neg e, decide_eq_false e, Bool.false_or]; exact valV_any k r
theorem length_putK (kvs : List (κ × V)) (k : κ) (v : V) : (putK kvs k v).length ≤ kvs.length + 1 := by
  unfold putK
  split
  · rw [List.length_map]; omega
  · rw [List.length_append, List.length_cons, List.length_nil]; omega
theorem putK_new {kvs : List (κ × V)} {k : κ} (v : V) (h : valV kvs k = none) : putK kvs k v = kvs ++ [(k, v)] := by
  unfold putK
  rw [valV_any, h]
  exact if_neg (by decide)
theorem RelO.isSome_eq {o : Option V} {u : Option Value} (r : RelO o u) : o.isSome = u.isSome := by
  cases o with
  | none => cases u with
    | none => rfl
    | some _ => exact (show False from r).elim
  | some _ => cases u with
    | none => exact (show False from r).elim
    | some _ => rfl
/-- raw tables of the same keys -/
theorem KV.val {kvs : List (κ × V)} {vs : List (κ × Value)} (r : KV kvs vs) (k : κ) : RelO (valV kvs k) (valueAt vs k) := by
  unfold KV at r
  induction r with
  | nil => exact True.intro
  | @cons p q ps qs h t ih =>
    obtain ⟨h1, h2⟩ := h
    by_cases e : p.1 = k
    · have e' : q.1 = k := h1.symm.trans e
      have b : valueAt (q :: qs) k = some q.2 := by simp [valueAt, List.find?_cons, e']
      rw [valV_pos e, b]; exact h2
    · have e' : ¬ q.1 = k := fun z => e (h1.trans z)
      have b : valueAt (q :: qs) k = valueAt qs k := by simp [valueAt, List.find?_cons, e']
      rw [valV_neg e, b]; exact ih
theorem KV.any {kvs : List (κ × V)} {vs : List (κ × Value)} (r : KV kvs vs) (k : κ) : (kvs.any fun kv => decide (kv.1 = k)) = vs.any fun kv => decide (kv.1 = k) := by
  unfold KV at r
  induction r with
  | nil => rfl
  | cons h t ih => rw [List.any_cons, List.any_cons, ih, h.1]
theorem KV.repl {kvs : List (κ × V)} {vs : List (κ × Value)} (r : KV kvs vs) (k : κ) {y : V} {u : Value} (ry : RelV y u) :
    KV (kvs.map fun kv => if kv.1 = k then (kv.1, y) else kv) (vs.map fun kv => if kv.1 = k then (kv.1, u) else kv) := by
  unfold KV at r ⊢
  induction r with
  | nil => exact .nil
  | @cons p q ps qs h t ih =>
    rw [List.map_cons, List.map_cons]
    refine .cons ?_ ih
    obtain ⟨h1, h2⟩ := h
    by_cases e : p.1 = k
    · rw [if_pos e, if_pos (h1.symm.trans e)]; exact ⟨h1, ry⟩
    · rw [if_neg e, if_neg (fun z => e (h1.trans z))]; exact ⟨h1, h2⟩
theorem KV.put {kvs : List (κ × V)} {vs : List (κ × Value)} (r : KV kvs vs) (k : κ) {y : V} {u : Value} (ry : RelV y u) : KV (putK kvs k y) (stored vs k u) := by
  unfold putK stored
  rw [r.any k]
  by_cases e : (vs.any fun kv => decide (kv.1 = k)) = true
  · rw [if_pos e, if_pos e]; exact r.repl k ry
  · rw [if_neg e, if_neg e]; exact Paired.snoc r ⟨rfl, ry⟩
theorem KV.drop {kvs : List (κ × V)} {vs : List (κ × Value)} (r : KV kvs vs) (k : κ) : KV (dropK kvs k) (without vs k) := by
  unfold KV at r ⊢
  unfold dropK without
  induction r with
  | nil => exact .nil
  | @cons p q ps qs h t ih =>
    obtain ⟨h1, h2⟩ := h
    rw [List.filter_cons, List.filter_cons]
    by_cases e : p.1 = k
    · have a : ¬ decide (p.1 ≠ k) = true := by simp [e]
      have b : ¬ decide (q.1 ≠ k) = true := by simp [h1.symm.trans e]
      rw [if_neg a, if_neg b]; exact ih
    · have e' : ¬ q.1 = k := fun z => e (h1.trans z)
      have a : decide (p.1 ≠ k) = true := by simp [e]
      have b : decide (q.1 ≠ k) = true := by simp [e']
      rw [if_pos a, if_pos b]; exact .cons ⟨h1, h2⟩ ih
theorem KV.length {kvs : List (κ × V)} {vs : List (κ × Value)} (r : KV kvs vs) : kvs.length = vs.length := Paired.length r
theorem dropK_le (kvs : List (κ × V)) (k : κ) : (dropK kvs k).length ≤ kvs.length := List.length_filter_le _ _
end
/-! ### a tracked dict, its keys ints and texts or tuples of these -/
theorem kV_is {P : Program} {w : World} {k : Key} {u : Value} (r : RelV (kV k) u) : (mixKind P w).is k u = true := by
  cases k with
  | inl i => obtain ⟨t, e⟩ := (show ∃ t, u = Value.int i t from r); subst e; exact mixKind_int P w i t
  | inr x => obtain ⟨t, e⟩ := (show ∃ t, u = Value.str x t from r); subst e; exact mixKind_str P w x t
theorem items_are {P : Program} {w : World} : ∀ {ks : List Key} {us : List Value}, Vals (ks.map kV) us → ItemsAre (mixKind P w) ks us
  | [], _, r => by rw [List.map_nil] at r; cases r; exact .nil
  | k :: ks, _, r => by
    rw [List.map_cons] at r
    cases r with
    | cons h t => exact .cons (kV_is h) (items_are t)
/-- raw entries of a dict with tuple keys -/
abbrev KT (H : Hp) : List (List Key × V) → List (List Key × Addr × Value) → Prop := Paired fun p q => p.1 = q.1 ∧ H q.2.1 = some (.tup (p.1.map kV)) ∧ RelV p.2 q.2.2
theorem KT.val {H : Hp} {kvs : List (List Key × V)} {xs : List (List Key × Addr × Value)} (r : KT H kvs xs) (k : List Key) : RelO (valV kvs k) ((atKey xs k).map (·.2)) := by
  induction r with
  | nil => exact True.intro
  | @cons p q ps qs h t ih =>
    obtain ⟨h1, _, h2⟩ := h
    by_cases e : p.1 = k
    · have e' : q.1 = k := h1.symm.trans e
      have b : atKey (q :: qs) k = some q.2 := by simp [atKey, List.find?_cons, e']
      rw [valV_pos e, b]; exact h2
    · have e' : ¬ q.1 = k := fun z => e (h1.trans z)
      have b : atKey (q :: qs) k = atKey qs k := by simp [atKey, List.find?_cons, e']
      rw [valV_neg e, b]; exact ih
theorem KT.repl {H : Hp} {kvs : List (List Key × V)} {xs : List (List Key × Addr × Value)} (r : KT H kvs xs) (k : List Key) {y : V} {u : Value} (ry : RelV y u) :
    KT H (kvs.map fun kv => if kv.1 = k then (kv.1, y) else kv) (xs.map (putAt k u)) := by
  induction r with
  | nil => exact .nil
  | @cons p q ps qs h t ih =>
    rw [List.map_cons, List.map_cons]
    refine .cons ?_ ih
    obtain ⟨h1, h2, h3⟩ := h
    unfold putAt
    by_cases e : p.1 = k
    · rw [if_pos e, if_pos (h1.symm.trans e)]; exact ⟨h1, h2, ry⟩
    · rw [if_neg e, if_neg (fun z => e (h1.trans z))]; exact ⟨h1, h2, h3⟩
theorem KT.put {H : Hp} {kvs : List (List Key × V)} {xs : List (List Key × Addr × Value)} (r : KT H kvs xs) (k : List Key) {b : Addr} {y : V} {u : Value} (hb : H b = some (.tup (k.map kV))) (ry : RelV y u) :
    KT H (putK kvs k y) (storedH xs k b u) := by
  have e : (kvs.any fun kv => decide (kv.1 = k)) = (atKey xs k).isSome := by
    rw [valV_any, (r.val k).isSome_eq, Option.isSome_map]
  unfold putK storedH
  rw [e]
  by_cases q : (atKey xs k).isSome = true
  · rw [if_pos q, if_pos q]; exact r.repl k ry
  · rw [if_neg q, if_neg q]; exact Paired.snoc r ⟨rfl, hb, ry⟩
theorem KT.keeps {H H' : Hp} {kvs : List (List Key × V)} {xs : List (List Key × Addr × Value)} (r : KT H kvs xs) (ht : ∀ b ys, H b = some (.tup ys) → H' b = some (.tup ys)) : KT H' kvs xs :=
  Paired.mapP r fun _ _ z => ⟨z.1, ht _ _ z.2.1, z.2.2⟩
section
variable {P : Program} {w : World} {H : Hp} {h : Heap} {a : Addr}
theorem rd_of {u : HO} (ok : HOk P w H h) (e : Rd H a u) : ObjOk P w H h a u := e.ok ok
theorem dk_rd {kvs : List (Key × V)} (ok : HOk P w H h) (e : Rd H a (.dK kvs)) : kvs.length ≤ sizeLine ∧ (a == sysModules) = false ∧ ∃ vs, KV kvs vs ∧ h.DictOf (mixKind P w) a vs :=
  show ObjOk P w H h a (.dK kvs) from rd_of ok e
theorem dk_of {kvs : List (Key × V)} (ok : HOk P w H h) (e : H a = some (.dK kvs)) : kvs.length ≤ sizeLine ∧ (a == sysModules) = false ∧ ∃ vs, KV kvs vs ∧ h.DictOf (mixKind P w) a vs := dk_rd ok (.inl e)
/-- a tracked tuple of ints and texts is a key -/
theorem key_of {ks : List Key} (ok : HOk P w H h) (e : H a = some (.tup (ks.map kV))) : (tupleKind (mixKind P w)).is h ks a := by
  obtain ⟨_, its, r, o, h1, h2, n, h3⟩ := (show ObjOk P w H h a (.tup (ks.map kV)) from ok a _ e)
  exact ⟨o, its.toArray, n, h1, h2, h3, by simpa using items_are r⟩
theorem dt_rd {kvs : List (List Key × V)} (ok : HOk P w H h) (e : Rd H a (.dT kvs)) : kvs.length ≤ sizeLine ∧ (a == sysModules) = false ∧
    ∃ xs, KT H kvs xs ∧ h.DictOfH (tupleKind (mixKind P w)) a xs := by
  obtain ⟨z, y, xs, r, o, es, ep, h1, h2, h3, h4, h5⟩ := (show ObjOk P w H h a (.dT kvs) from rd_of ok e)
  refine ⟨z, y, xs, r, o, es, ep, h1, h2, h3, h4, fun x hx => ?_, h5⟩
  have all : ∀ {l : List (List Key × V)} {m : List (List Key × Addr × Value)}, KT H l m → ∀ x ∈ m, (tupleKind (mixKind P w)).is h x.1 x.2.1 := by
    intro l m q
    induction q with
    | nil => intro x hx; exact nomatch hx
    | @cons p q ps qs hq t ih =>
      intro x hx
      rcases List.mem_cons.mp hx with e | hx
      · subst e
        exact key_of ok (by rw [← hq.1]; exact hq.2.1)
      · exact ih x hx
  exact all r x hx
theorem dt_of {kvs : List (List Key × V)} (ok : HOk P w H h) (e : H a = some (.dT kvs)) : kvs.length ≤ sizeLine ∧ (a == sysModules) = false ∧
    ∃ xs, KT H kvs xs ∧ h.DictOfH (tupleKind (mixKind P w)) a xs := dt_rd ok (.inl e)
end
/-- what the dict at a holds at the key y -/
def DGet (H : Hp) (a : Addr) (y : V) (r : Option V) : Prop :=
  (∃ kvs k, Rd H a (.dK kvs) ∧ y = kV k ∧ r = valV kvs k) ∨ ∃ kvs k b, Rd H a (.dT kvs) ∧ y = .ref b ∧ H b = some (.tup (k.map kV)) ∧ r = valV kvs k
/-- the heap behind a[y] = v -/
def DPut (H : Hp) (a : Addr) (y v : V) (H' : Hp) : Prop :=
  (∃ kvs k, H a = some (.dK kvs) ∧ y = kV k ∧ kvs.length < sizeLine ∧ H' = upd H a (.dK (putK kvs k v))) ∨
  ∃ kvs k b, H a = some (.dT kvs) ∧ y = .ref b ∧ H b = some (.tup (k.map kV)) ∧ kvs.length < sizeLine ∧ H' = upd H a (.dT (putK kvs k v))
theorem DGet.k {H : Hp} {a : Addr} {kvs : List (Key × V)} {k : Key} (e : H a = some (.dK kvs)) : DGet H a (kV k) (valV kvs k) := .inl ⟨kvs, k, .inl e, rfl, rfl⟩
theorem DPut.k {H : Hp} {a : Addr} {kvs : List (Key × V)} {k : Key} {v : V} (e : H a = some (.dK kvs)) (hl : kvs.length < sizeLine) : DPut H a (kV k) v (upd H a (.dK (putK kvs k v))) := .inl ⟨kvs, k, e, rfl, hl, rfl⟩
section
variable {X : Cx} {pins : List (Addr × Obj)} {σ : St} {H : Hp} {s : Shared} {a : Addr} {y v : V} {u r : Value} {o : Option V} {A : Around} {E : Value → Shared → Prop}
theorem Inv.big (I : Inv X pins σ H s) : sysModules < s.heap.objs.size := by
  have h : mainGlobals < s.heap.objs.size := (I.mod.glob.keeps I.bk).lt
  exact Nat.lt_trans (by decide) h
/-- d[y], there -/
theorem d_getItem {Q : Value → Shared → Prop} (hu : A.units + 1 < cLine) (I : Inv X pins σ H s) (g : DGet H a y (some v)) (ry : RelV y u) (h : ∀ w' s', Inv X pins σ H s' → RelV v w' → Q w' s') :
    wpAny (model X.prog X.w) A (getItem (.ref a) u) Q E s := by
  rcases g with ⟨kvs, k, e, ey, l⟩ | ⟨kvs, k, b, e, ey, eb, l⟩
  · subst ey
    obtain ⟨z, hd, vs, rel, dd⟩ := dk_rd I.hok e
    obtain ⟨w', hw, rw'⟩ := RelO.some_of (v := v) (o := valueAt vs k) (by rw [l]; exact rel.val k)
    exact wpAny_getItem_of (kV_is ry) dd.mapOf hw (h w' _ (I.tok _) rw')
  · subst ey
    cases (show u = Value.ref b from ry)
    obtain ⟨z, hd, xs, rel, dd⟩ := dt_rd I.hok e
    obtain ⟨w', hw, rw'⟩ := RelO.some_of (v := v) (o := (atKey xs k).map (·.2)) (by rw [l]; exact rel.val k)
    obtain ⟨p, hp, hp2⟩ := Option.map_eq_some_iff.mp hw
    refine wpAny_getItem_heap (tupleKind_room_in1 hu) (key_of I.hok eb) dd hp ?_
    rw [hp2]
    exact h w' _ (I.tok _) rw'
/-- y in d -/
theorem d_in {Q : Value → Shared → Prop} (hu : A.units + 1 < cLine) (I : Inv X pins σ H s) (g : DGet H a y o) (ry : RelV y u) (h : ∀ s', Inv X pins σ H s' → Q (.bool o.isSome) s') :
    wpAny (model X.prog X.w) A (compareOp .In u (.ref a)) Q E s := by
  rcases g with ⟨kvs, k, e, ey, l⟩ | ⟨kvs, k, b, e, ey, eb, l⟩
  · subst ey
    obtain ⟨z, hd, vs, rel, dd⟩ := dk_rd I.hok e
    refine wpAny_in_of (kV_is ry) hd dd.mapOf ?_
    rw [← (rel.val k).isSome_eq, ← l]
    exact h _ (I.tok _)
  · subst ey
    cases (show u = Value.ref b from ry)
    obtain ⟨z, hd, xs, rel, dd⟩ := dt_rd I.hok e
    refine wpAny_in_heap (tupleKind_room_in1 hu) (key_of I.hok eb) hd dd ?_
    have q := (rel.val k).isSome_eq
    rw [Option.isSome_map] at q
    rw [← q, ← l]
    exact h _ (I.tok _)
theorem d_notIn {Q : Value → Shared → Prop} (hu : A.units + 1 < cLine) (I : Inv X pins σ H s) (g : DGet H a y o) (ry : RelV y u) (h : ∀ s', Inv X pins σ H s' → Q (.bool (!o.isSome)) s') :
    wpAny (model X.prog X.w) A (compareOp .NotIn u (.ref a)) Q E s := by
  rcases g with ⟨kvs, k, e, ey, l⟩ | ⟨kvs, k, b, e, ey, eb, l⟩
  · subst ey
    obtain ⟨z, hd, vs, rel, dd⟩ := dk_rd I.hok e
    refine wpAny_notIn_of (kV_is ry) hd dd.mapOf ?_
    rw [← (rel.val k).isSome_eq, ← l]
    exact h _ (I.tok _)
  · subst ey
    cases (show u = Value.ref b from ry)
    obtain ⟨z, hd, xs, rel, dd⟩ := dt_rd I.hok e
    refine wpAny_notIn_heap (tupleKind_room_in1 hu) (key_of I.hok eb) hd dd ?_
    have q := (rel.val k).isSome_eq
    rw [Option.isSome_map] at q
    rw [← q, ← l]
    exact h _ (I.tok _)
/-- a dict's object is replaced -/
theorem d_write {h' : Heap} {t' : Nat} {ob : HO} (I : Inv X pins σ H s) (mu : Mut (H a)) (hs : Heap.SameBut a s.heap h') (he : ∃ q, h'.get? a = some q) (new : ObjOk X.prog X.w (upd H a ob) h' a ob) :
    Inv X pins σ (upd H a ob) { s with heap := h', toks := t' } :=
  I.write (x := a) (e := a) mu (.inl rfl) (fun b q hb z => (hs.2 b hb).trans z) he new
theorem dk_new {P : Program} {w : World} {H' : Hp} {h' : Heap} {kvs : List (Key × V)} {vs : List (Key × Value)} (z : kvs.length ≤ sizeLine) (hd : (a == sysModules) = false) (rel : KV kvs vs) (dd : h'.DictOf (mixKind P w) a vs) :
    ObjOk P w H' h' a (.dK kvs) := ⟨z, hd, vs, rel, dd⟩
/-- d[y] = v -/
theorem d_setItem {H' : Hp} {Q : Unit → Shared → Prop} (hu : A.units + 1 < cLine) (I : Inv X pins σ H s) (g : DPut H a y v H') (ry : RelV y u) (rv : RelV v r) (h : ∀ s', Inv X pins σ H' s' → Q () s') :
    wpAny (model X.prog X.w) A (setItem (.ref a) u r) Q E s := by
  rcases g with ⟨kvs, k, e, ey, l, eH⟩ | ⟨kvs, k, b, e, ey, eb, l, eH⟩
  · subst ey eH
    obtain ⟨z, hd, vs, rel, dd⟩ := dk_of I.hok e
    have hz : vs.length ≤ sizeLine := by rw [← rel.length]; exact z
    have hl : (putK kvs k v).length ≤ sizeLine := by have := length_putK kvs k v; omega
    refine wpAny_setItem_pairs (hsz := hz) (kV_is ry) dd fun h' dd' hs => h _ ?_
    have he : ∃ q, h'.get? a = some q := let ⟨q, _, _, hq, _⟩ := dd'; ⟨q, hq⟩
    exact d_write I (by rw [e]; exact True.intro) hs he (dk_new hl hd (rel.put k rv) dd')
  · subst ey eH
    cases (show u = Value.ref b from ry)
    obtain ⟨z, hd, xs, rel, dd⟩ := dt_of I.hok e
    have hz : xs.length ≤ sizeLine := by rw [← Paired.length rel]; exact z
    have hl : (putK kvs k v).length ≤ sizeLine := by have := length_putK kvs k v; omega
    refine wpAny_setItem_heap (hsz := hz) (tupleKind_room_in1 hu) (key_of I.hok eb) dd fun h' dd' hs => h _ ?_
    obtain ⟨q, es, ep, hq, h2, h3, h4, _, h5⟩ := dd'
    refine d_write I (by rw [e]; exact True.intro) hs ⟨q, hq⟩ ⟨hl, hd, _, (rel.put k eb rv).keeps fun c ys ec => ?_, q, es, ep, hq, h2, h3, h4, h5⟩
    rw [upd_ne (ne_of ec e (fun z => nomatch z))]
    exact ec
end
section
variable {X : Cx} {pins : List (Addr × Obj)} {σ : St} {H : Hp} {s : Shared} {a : Addr} {kvs : List (Key × V)} {k : Key} {u : Value} {A : Around} {E : Value → Shared → Prop}
/-- d.pop(k[, x]), there -/
theorem d_pop {v : V} {more : List Value} {Q : Value → Shared → Prop} (I : Inv X pins σ H s) (e : H a = some (.dK kvs)) (ry : RelV (kV k) u) (l : valV kvs k = some v) (hm : more = [] ∨ ∃ x, more = [x])
    (h : ∀ w' s', Inv X pins σ (upd H a (.dK (dropK kvs k))) s' → RelV v w' → Q w' s') : wpAny (model X.prog X.w) A (call (.builtin "dict.pop") (.ref a :: u :: more)) Q E s := by
  obtain ⟨z, hd, vs, rel, dd⟩ := dk_of I.hok e
  obtain ⟨w', hw, rw'⟩ := RelO.some_of (v := v) (o := valueAt vs k) (by rw [← l]; exact rel.val k)
  have hp : (keyPart u).isSome = true := by
    cases k with
    | inl i => obtain ⟨t, q⟩ := (show ∃ t, u = Value.int i t from ry); subst q; rfl
    | inr x => obtain ⟨t, q⟩ := (show ∃ t, u = Value.str x t from ry); subst q; rfl
  have ha : argsOk "dict.pop" ⟨.ref a :: u :: more, []⟩ := by
    rcases hm with q | ⟨x, q⟩
    · subst q; exact PySem.F.args_dict_pop_2 _ _
    · subst q; exact PySem.F.args_dict_pop_3 _ _ _
  refine call_meetsIn PySem.F.slot_dict_pop dd.typeIs PySem.F.entry_dict_pop ha (meets_dict_pop_there (mixKind X.prog X.w) a (kV_is ry) more hm hp)
    ⟨vs, w', dd, by rw [← rel.length]; exact z, hw, fun h' dd' hs => h w' _ ?_ rw'⟩
  have he : ∃ q, h'.get? a = some q := let ⟨q, _, _, hq, _⟩ := dd'; ⟨q, hq⟩
  exact d_write I (by rw [e]; exact True.intro) hs he (dk_new (Nat.le_trans (dropK_le kvs k) z) hd (rel.drop k) dd')
/-- len(d) -/
theorem d_len {Q : Value → Shared → Prop} (I : Inv X pins σ H s) (e : Rd H a (.dK kvs)) (h : ∀ t s', Inv X pins σ H s' → Q (.int kvs.length t) s') : wpAny (model X.prog X.w) A (call (.builtin "len") [.ref a]) Q E s := by
  obtain ⟨z, hd, vs, rel, dd⟩ := dk_rd I.hok e
  refine call_len_dict hd dd (by rw [← rel.length]; rw [sizeLine_eq] at z; omega) ?_
  rw [← rel.length]
  exact h _ _ (I.tok _)
end
/-! ### readings and rules -/
/-- the element of a subscription, not a slice -/
def NoSl (i : Expr) : Prop := ∀ ov iv, subscripted i false ov iv = operate [ov, iv] (getItem ov iv)
theorem subD_of {prog : Program} {w : World} {A : Around} {E : Value → Shared → Prop} {s : Shared} {env : Env} {value slice : Expr} {pos : Pos} {T id : String} {Q : Value → Shared → Prop}
    (hl : typeLookup (.type T) "__getitem__" = pure (some (.builtin id))) (hs : NoSl slice)
    (h : wpAny (model prog w) A (eval value env) (fun o s₁ => wpAny (model prog w) A (eval slice env) (fun i s₂ => s₂.TypeIs o T ∧ wpAny (model prog w) A (getItem o i) Q E s₂) E s₁) E s) :
    wpAny (model prog w) A (eval (.Subscript value slice pos) env) Q E s := by
  refine Subscript_ (wpAny_mono h (fun o s₁ h₁ => wpAny_mono h₁ (fun i s₂ h₂ => ?_) fun _ _ x => x) fun _ _ x => x)
  obtain ⟨hT, h₂⟩ := h₂
  unfold subscriptTail
  refine wpAny_bind ?_
  rw [getitemInPython_of_ne hT.not_modules]
  refine wpAny_bind (wpAny_specialOf hT hl ?_)
  have fin : wpAny (model prog w) A (subscripted slice false o i) (fun r s₃ => wpAny (model prog w) A (letTemporaryGo value o r >>= fun _ => pure r) Q E s₃) E s₂ := by
    rw [hs o i]
    exact wpAny_operating (wpAny_mono h₂ (fun r s₃ h₃ => wpAny_bind (wpAny_letTemporaryGo (wpAny_pure h₃))) fun _ _ x => x)
  first
    | exact wpAny_pure (wpAny_bind fin)
    | exact wpAny_bind (wpAny_pure (wpAny_bind fin))
    | exact wpAny_bind fin
theorem dict_typeIs {X : Cx} {pins : List (Addr × Obj)} {σ : St} {H : Hp} {s : Shared} {a : Addr} {y : V} {o : Option V} (I : Inv X pins σ H s) (g : DGet H a y o) : s.TypeIs (.ref a) "dict" := by
  rcases g with ⟨kvs, k, e, _, _⟩ | ⟨kvs, k, b, e, _, _, _⟩
  · obtain ⟨_, _, vs, _, dd⟩ := dk_rd I.hok e
    exact dd.typeIs
  · obtain ⟨_, _, xs, _, dd⟩ := dt_rd I.hok e
    exact dd.typeIs
/-- d[y] -/
def tDGet (td ty : TE) : TE := fun σ H Q => td σ H fun x H1 => ty σ H1 fun y H2 => ∃ a v, x = .ref a ∧ DGet H2 a y (some v) ∧ Q v H2
/-- y in d, y not in d -/
def tDIn (ty td : TE) : TE := fun σ H Q => ty σ H fun y H1 => td σ H1 fun x H2 => ∃ a o, x = .ref a ∧ DGet H2 a y o ∧ Q (.bl o.isSome) H2
def tDNotIn (ty td : TE) : TE := fun σ H Q => ty σ H fun y H1 => td σ H1 fun x H2 => ∃ a o, x = .ref a ∧ DGet H2 a y o ∧ Q (.bl (!o.isSome)) H2
/-- d[y] = v -/
def sDPut (td ty tv : TE) : TS := fun D σ H => tv σ H fun v H1 => td σ H1 fun x H2 => ty σ H2 fun y H3 => ∃ a H4, x = .ref a ∧ DPut H3 a y v H4 ∧ D.nx σ H4
section
variable {X : Cx} {o i e value : Expr} {pos pos' tpos : Pos} {td ty tv : TE}
theorem pe_dget (hu : X.A.units + 1 < cLine) (ho : PE X o td) (hi : PE X i ty) (hs : NoSl i) : PE X (.Subscript o i pos) (tDGet td ty) := by
  intro pins s σ H Q I h
  refine subD_of PySem.F.slot_dict_getitem.lookup hs (thn (ho pins s σ H _ I h) fun u s1 ⟨x, H1, I1, rx, q1⟩ => thn (hi pins s1 σ H1 _ I1 q1) fun iv s2 ⟨y, H2, I2, ry, a, v, ex, g, q2⟩ => ?_)
  subst ex
  obtain rfl : u = Value.ref a := rx
  exact ⟨dict_typeIs I2 g, d_getItem hu I2 g ry fun w' s3 I3 rw' => ⟨v, H2, I3, rw', q2⟩⟩
theorem pc_din (hu : X.A.units + 1 < cLine) (hi : PE X i ty) (ho : PE X o td) : PC X .In i o (tDIn ty td) := by
  intro pins s σ H Q I h
  refine thn (hi pins s σ H _ I h) fun iv s1 ⟨y, H1, I1, ry, q1⟩ => thn (ho pins s1 σ H1 _ I1 q1) fun u s2 ⟨x, H2, I2, rx, a, ov, ex, g, q2⟩ => ?_
  subst ex
  obtain rfl : u = Value.ref a := rx
  exact d_in hu I2 g ry fun s3 I3 => ⟨.bl ov.isSome, H2, I3, rfl, q2⟩
theorem pc_dnotin (hu : X.A.units + 1 < cLine) (hi : PE X i ty) (ho : PE X o td) : PC X .NotIn i o (tDNotIn ty td) := by
  intro pins s σ H Q I h
  refine thn (hi pins s σ H _ I h) fun iv s1 ⟨y, H1, I1, ry, q1⟩ => thn (ho pins s1 σ H1 _ I1 q1) fun u s2 ⟨x, H2, I2, rx, a, ov, ex, g, q2⟩ => ?_
  subst ex
  obtain rfl : u = Value.ref a := rx
  exact d_notIn hu I2 g ry fun s3 I3 => ⟨.bl (!ov.isSome), H2, I3, rfl, q2⟩
theorem ps_dput (hu : X.A.units + 1 < cLine) (ho : PE X o td) (hi : PE X i ty) (hv : PE X value tv) (hs : swapsWith value (some (.Subscript o i pos')) pos.line X.env = pure false) :
    PS X (.Assign [.Subscript o i pos'] value pos) (sDPut td ty tv) := by
  intro pins s σ H D I h
  refine wpAny_Assign_Subscript (thn (hv pins s σ H _ I h) fun r s1 ⟨v, H1, I1, rv, q1⟩ => thn (ho pins s1 σ H1 _ I1 q1) fun u s2 ⟨x, H2, I2, rx, q2⟩ => thn (hi pins s2 σ H2 _ I2 q2) fun iv s3 ⟨y, H3, I3, ry, a, H4, ex, g, q3⟩ => ?_) hs
  subst ex
  obtain rfl : u = Value.ref a := rx
  exact d_setItem hu I3 g ry rv fun s4 I4 => ⟨σ, H4, I4, q3⟩
end
/-! ### displays -/
theorem dk_empty {P : Program} {w : World} {H : Hp} (h : Heap) (hb : sysModules < h.objs.size) : ObjOk P w H (h.push { cls := .type "dict", data := .dict #[] }) h.objs.size (.dK []) :=
  ⟨Nat.zero_le _, beq_eq_false_iff_ne.mpr (Ne.symm (Nat.ne_of_lt hb)), [], .nil, Heap.DictOf.new h⟩
/-- {}, to be a dict of the kind that is wanted -/
def tDNewK : TE := fun _ H Q => ∀ p, H p = none → Q (.ref p) (upd H p (.dK []))
section
variable {X : Cx} {pos : Pos}
theorem pe_dnewK : PE X (.Dict [] [] pos) tDNewK := fun pins s σ H Q I h =>
  wpAny_Dict_empty ⟨.ref s.heap.objs.size, _, I.laid (a := s.heap.objs.size) (o := .dK []) (t' := s.toks) (fun _ _ q => Heap.get?_push_of_some _ q) (Nat.le_refl _) (dk_empty s.heap I.big), rfl, h _ (I.hok.fresh (Nat.le_refl _))⟩
end
/-! ### methods -/
/-- a method call o.m(e) of a built-in, with one argument: what must be seen of the text -/
structure M1 (X : Cx) (o : Expr) (m : Str) (apos : Pos) (e : Expr) (cpos : Pos) : Prop where
  base : attributeBase o m X.env (eval o X.env) = eval o X.env
  few : ((backTo cpos (starEach [e] X.env)).all (fun x => !x.1) && (backToKw cpos (keywordEach [] X.env)).all (fun x => x.1.isSome)
    && decide (([e] : List Expr).length + ([] : List Keyword).length + (if ([] : List Keyword).isEmpty then 0 else 1) < 30)) = true
  line : (apos.endLine == cpos.line) = true
  trees : backTo cpos (starEach [e] X.env) = [(false, eval e X.env)]
/-- a is a dict, whatever its keys -/
def IsD (H : Hp) (a : Addr) : Prop := (∃ kvs, Rd H a (.dK kvs)) ∨ ∃ kvs, Rd H a (.dT kvs)
theorem isD_at {X : Cx} {pins : List (Addr × Obj)} {σ : St} {H : Hp} {s : Shared} {a : Addr} (I : Inv X pins σ H s) (d : IsD H a) :
    s.TypeIs (.ref a) "dict" ∧ (∀ b, Value.ref a = .ref b → ∃ ob, s.heap.get? b = some ob ∧ ob.dict = none) ∧ (a == sysModules) = false := by
  rcases d with ⟨kvs, e⟩ | ⟨kvs, e⟩
  · obtain ⟨_, hd, vs, _, dd⟩ := dk_rd I.hok e
    refine ⟨dd.typeIs, fun b q => ?_, hd⟩
    cases q
    obtain ⟨ob, _, _, h1, h2, _⟩ := dd
    exact ⟨ob, h1, h2.2.1⟩
  · obtain ⟨_, hd, xs, _, dd⟩ := dt_rd I.hok e
    refine ⟨dd.typeIs, fun b q => ?_, hd⟩
    cases q
    obtain ⟨ob, _, _, h1, h2, _⟩ := dd
    exact ⟨ob, h1, h2.2.1⟩
section
variable {X : Cx} {pins : List (Addr × Obj)} {σ : St} {H : Hp} {s : Shared} {a : Addr} {y d : V} {u r : Value} {o : Option V} {A : Around} {E : Value → Shared → Prop}
end
/-- d.pop(k): there; d.pop(k, x): there or not -/
def tDPop1 (td ty : TE) : TE := fun σ H Q => td σ H fun x H1 => ∃ a, x = .ref a ∧ IsD H1 a ∧ ty σ H1 fun y H2 => ∃ kvs k v, H2 a = some (.dK kvs) ∧ y = kV k ∧ valV kvs k = some v ∧ Q v (upd H2 a (.dK (dropK kvs k)))
section
variable {X : Cx} {o e f : Expr} {apos cpos : Pos} {td ty tx : TE}
theorem pe_dpop1 (ho : PE X o td) (he : PE X e ty) (m : M1 X o "pop" apos e cpos) : PE X (.Call (.Attribute o "pop" apos) [e] [] cpos) (tDPop1 td ty) := by
  intro pins s σ H Q I h
  refine wpAny_Call_method m.base m.few m.line PySem.F.plainAttrs_dict PySem.F.slot_dict_pop PySem.F.type_dict_pop (thn (ho pins s σ H _ I h) fun u s1 ⟨x, H1, I1, rx, a, ex, d, q1⟩ => ?_)
  subst ex
  obtain rfl : u = Value.ref a := rx
  obtain ⟨t1, t2, _⟩ := isD_at I1 d
  refine ⟨t1, t2, ?_⟩
  rw [m.trees]
  refine Calls.callWith_builtin rfl (Calls.evalArgs_plain (Calls.spliced_cons (thn (he pins s1 σ H1 _ I1 q1) fun iv s2 ⟨y, H2, I2, ry, kvs, k, v, ea, ey, l, q2⟩ => Calls.spliced_nil ?_)))
  subst ey
  exact d_pop I2 ea ry l (.inl rfl) fun w' s3 I3 rw' => ⟨v, _, I3, rw', q2⟩
end
/-! ### dict(d): a copy -/
section
variable {X : Cx} {pins : List (Addr × Obj)} {σ : St} {H : Hp} {s : Shared} {a : Addr} {kvs : List (Key × V)} {A : Around} {E : Value → Shared → Prop}
end
section
variable {X : Cx} {pins : List (Addr × Obj)} {σ : St} {H : Hp} {s : Shared} {a : Addr} {y : V} {u : Value} {A : Around} {E : Value → Shared → Prop}
end
end L2
namespace L2
open PySem PySem.Spec PyProof.Rows
section
variable {prog : Program} {w : World} {A : Around} {E : Value → Shared → Prop}
end
section
variable {X : Cx}
end
end L2
namespace L2
open PySem PySem.Spec PyProof.Rows
section
variable {X : Cx} {pins : List (Addr × Obj)} {σ : St} {H : Hp} {s : Shared} {h' : Heap}
/-- several records of ours have turned -/
theorem Inv.turnedL {t' : Nat} {ch : List Addr} (I : Inv X pins σ H s) (k : ∀ b o, b ∉ ch → s.heap.get? b = some o → h'.get? b = some o) (hf : ∀ b ∈ ch, FpOk X pins H b) : Inv X pins σ H { s with heap := h', toks := t' } := by
  have nit : ∀ b u, H b = some u → b ∉ ch := fun b u e z => by
    have q := (hf b z).1
    rw [q] at e; cases e
  refine I.step (g' := s.gens) (d' := s.drawn) (ch := ch) (fun b hb => ⟨(hf b hb).2.2.2.1, (hf b hb).2.1, (hf b hb).2.2.2.2.1, (hf b hb).2.2.2.2.2⟩) (fun b o _ _ hc e _ => k b o hc e) (fun b o _ _ hc e _ => ⟨o.slots, k b o hc e⟩)
    (fun _ _ _ _ n => n) (fun b o hc e => ⟨o, k b o hc e⟩) (fun _ _ e => e) (fun _ _ _ e => e) (fun b ps e => ⟨#[], by rw [e]; simp⟩) (fun m hm => ?_) (fun b u e => ?_) I.bare
  · obtain ⟨o, es, ep, ho, r⟩ := hm
    exact ⟨o, es, ep, k _ o (fun z => (hf _ z).2.1 rfl) ho, r⟩
  · refine (I.hok b u e).stay (fun c v hc q => k c v ?_ q) (fun _ q => q) fun _ _ q => q
    rcases hc with z | z
    · rw [z]; exact nit b u e
    · exact nit c _ z
/-- .. and one new object is laid -/
theorem Inv.turnedNew {t' : Nat} {ch : List Addr} {T : Addr} {ob : HO} (I : Inv X pins σ H s) (k : ∀ b o, b ∉ ch → s.heap.get? b = some o → h'.get? b = some o) (hf : ∀ b ∈ ch, FpOk X pins H b) (hT : s.heap.objs.size ≤ T)
    (new : ObjOk X.prog X.w (upd H T ob) h' T ob) : Inv X pins σ (upd H T ob) { s with heap := h', toks := t' } := by
  have hn : H T = none := I.hok.fresh hT
  have nit : ∀ b u, H b = some u → b ∉ ch := fun b u e z => by
    have q := (hf b z).1
    rw [q] at e; cases e
  refine I.step (g' := s.gens) (d' := s.drawn) (ch := ch) (fun b hb => ⟨(hf b hb).2.2.2.1, (hf b hb).2.1, (hf b hb).2.2.2.2.1, (hf b hb).2.2.2.2.2⟩) (fun b o _ _ hc e _ => k b o hc e) (fun b o _ _ hc e _ => ⟨o.slots, k b o hc e⟩)
    (fun b o _ e n => ?_) (fun b o hc e => ⟨o, k b o hc e⟩) (fun b xs e => ?_) (fun b o u e => ?_) (fun b ps e => ⟨#[], ?_⟩) (fun m hm => ?_) (fun b u e => ?_) I.bare
  · rw [upd_ne (Nat.ne_of_lt (Nat.lt_of_lt_of_le (Heap.lt_size e) hT))]; exact n
  · rw [upd_ne (ne_of_none e hn)]; exact e
  · rw [upd_ne (ne_of_none e hn)]; exact e
  · rw [upd_ne (ne_of_none e hn), e]; simp
  · obtain ⟨o, es, ep, ho, r⟩ := hm
    exact ⟨o, es, ep, k _ o (fun z => (hf _ z).2.1 rfl) ho, r⟩
  · by_cases hb : b = T
    · subst hb
      rw [upd_same] at e
      cases e
      exact new
    · rw [upd_ne hb] at e
      refine (I.hok b u e).stay (fun c v hc q => k c v ?_ q) (fun c q => by rw [upd_ne (ne_of_none q hn)]; exact q) fun c xs q => by rw [upd_ne (ne_of_none q hn)]; exact q
      rcases hc with z | z
      · rw [z]; exact nit b u e
      · exact nit c _ z
/-! ### locking a thing while a statement runs -/
end
section
variable {X : Cx}
/-! ### one iterator just laid -/
theorem pi_one {tg : Expr} {pins : List (Addr × Obj)} {σ : St} {H : Hp} {s : Shared} {R : It → Hp → Prop} {J : It} {tn : Nat → Heap → Prop} {tk : Nat} (I : Inv X pins σ H s) (o : Obj)
    (T : Turn X.prog X.w X.K tg J [s.heap.objs.size] s.heap.objs.size tn) (st : tn 0 (s.heap.push o)) (q : R J H) : PIE X pins σ tg R (.ref s.heap.objs.size) { s with heap := s.heap.push o, toks := tk } := by
  refine ⟨s.heap.objs.size, [s.heap.objs.size], tn, J, H, rfl, I.kept fun b ob e => Heap.get?_push_of_some _ e, T, st, fun b hb => ?_, q⟩
  have e : b = s.heap.objs.size := by simpa using hb
  subst e
  exact I.fpOk (Nat.le_refl _) (I.hok.fresh (Nat.le_refl _))
end
/-! ### range with a step -/
/-- lo, lo + c, .. (n of them) -/
def Itc (lo c : Int) (n : Nat) : It := ⟨fun i _ => i < n, fun i H x H' => H' = H ∧ x = .int (lo + (i : Nat) * c), fun i _ => n ≤ i⟩
theorem turn_rangeC {P : Program} {w : World} {K : PySem.W.Frag} {tg : Expr} (it : Addr) (lo c : Int) (n : Nat) : Turn P w K tg (Itc lo c n) [it] it (fun i h => IsRangeIter h it (lo + (i : Nat) * c) ((n : Int) - (i : Nat)) c) where
  mem := by simp
  obj := fun i h st b hb => by
    have e : b = it := by simpa using hb
    subst e
    exact ⟨_, st, fun v z => nomatch z⟩
  keep := fun i h h' st k => k it (by simp) _ st
  item := by
    intro X hP hw hK hc i pins s σ H E I hf st hg
    subst hP hw hK
    obtain ⟨f0, f1, f2, f3, f4, f5⟩ := hf it (by simp)
    have W := Walks.range (prog := X.prog) (w := X.w) (I.ok.hd hc) it lo c n
    refine W.item i s _ _ hg st fun v h' tk hv st' kk => ?_
    obtain ⟨t, rfl⟩ := hv
    have I1 : Inv X pins σ H { s with heap := h', toks := tk } := I.turned (fun b o hb e => kk b o (by simpa using hb) e) f0 f1 f3 f4 f5
    exact ⟨_, rfl, go_of (s := { s with heap := h', toks := tk }) (n := "range_iterator") st' rfl rfl (by decide) ⟨.int (lo + (i : Nat) * c), H, I1, ⟨t, rfl⟩, ⟨rfl, rfl⟩, st', fun b hb => (hf b hb).1⟩⟩
  done := by
    intro X hP hw hK hc i pins s σ H E I hf st hg
    subst hP hw hK
    obtain ⟨f0, f1, f2, f3, f4, f5⟩ := hf it (by simp)
    exact wpAny_pyNext_range_end (I.ok.hd hc) st (by have : n ≤ i := hg; omega) fun h' eb => ⟨rfl, I.turned (t' := s.toks) (fun b o hb e => eb b o hb e) f0 f1 f3 f4 f5⟩
  self := fun A i s Q E st h => wpAny_pyIter_rangeiter st h
/-- range(i, j, c): small bounds, n items -/
def RgC (i j c : Int) (n : Nat) : Prop := c ≠ 0 ∧ c.natAbs < 1073741824 ∧ Builtin.Range.small i j c = true ∧ Builtin.Range.rangeSize i j c = n
def iRng3 (ta : TA) : TI := fun σ H R => ta σ H fun vs H1 => ∃ (i j c : Int) (n : Nat), vs = [.int i, .int j, .int c] ∧ RgC i j c n ∧ R (Itc i c n) H1
section
variable {X : Cx} {tg : Expr}
theorem pi_range3 {a b c : Expr} {ta : TA} {p pos : Pos} (hg : Gl X "range") (hm : X.mg "range" = none) (ha : PA X [a, b, c] ta)
    (hs : starEach [a, b, c] X.env = (false, eval a X.env) :: starEach [b, c] X.env := by rfl) (hpl : (backTo pos (starEach [b, c] X.env)).any (·.1) = false := by rfl) :
    PI X tg (.Call (.Name "range" p) [a, b, c] [] pos) (iRng3 ta) := by
  intro pins s σ H R I h
  refine Call_ (ld_blt I hg hm boot_range (PyProof.Rows.callWith_type1 (thn (ha pos pins s σ H _ I h) fun us s1 ⟨vs, H1, I1, r1, q1⟩ => ?_) hs hpl))
  obtain ⟨i, j, k, n, e, ⟨c0, c1, c2, c3⟩, q⟩ := q1
  subst e
  cases r1 with
  | cons r rr =>
    cases rr with
    | cons r' rr =>
      cases rr with
      | cons r'' rr =>
        cases rr
        obtain ⟨t, rfl⟩ := r
        obtain ⟨t', rfl⟩ := r'
        obtain ⟨t'', rfl⟩ := r''
        refine call_range_3 c0 ?_ (.inl (PyProof.noPylong_small c1))
        refine wpAny_pyIter_range (IsRange.new ..) c2 ?_
        have I2 : Inv X pins σ H1 { s1 with heap := s1.heap.push { cls := .type "range", data := .fields #[.int i t, .int j t', .int k t''] } } := I1.kept (t' := s1.toks) fun b o e => Heap.get?_push_of_some _ e
        refine pi_one (tk := s1.toks) I2 _ (turn_rangeC _ i k n) ?_ q
        have e1 : i + ((0 : Nat) : Int) * k = i := by simp
        have e2 : (n : Int) - ((0 : Nat) : Int) = Builtin.Range.rangeSize i j k := by rw [c3]; simp
        show IsRangeIter _ _ (i + ((0 : Nat) : Int) * k) ((n : Int) - ((0 : Nat) : Int)) k
        rw [e1, e2]
        exact Heap.get?_push_size _ rfl
end
/-! ### reversed(list) -/
section
variable {X : Cx} {tg : Expr}
end
/-! ### a str -/
/-! ### a dict's keys: any dict's entries -/
section
variable {prog : Program} {w : World} {A : Around} {E : Value → Shared → Prop} {s : Shared}
end
/-! ### a locked dict -/
section
variable {X : Cx} {pins : List (Addr × Obj)} {σ : St} {H : Hp} {s : Shared} {d : Addr} {o : Obj}
end
section
variable {P : Program} {w : World} {K : PySem.W.Frag} {tg : Expr} {d : Addr} {o : Obj} {es : Array DictEntry} {ep : Nat}
end
/-! ### for k in d, d.keys(), d.values(), d.items() -/
section
variable {X : Cx} {tg e : Expr} {td : TE} {apos cpos : Pos}
end
/-! ### enumerate(list) -/
/-- the list at a as it stands at each turn, each item in a new pair -/
def Ite (K : PySem.W.Frag) (a : Addr) : It :=
  ⟨fun i H => ∃ (xs : List V) (x : V), SqL K H a xs ∧ xs[i]? = some x, fun i H v H' => ∃ T x, v = .ref T ∧ H T = none ∧ H' = upd H T (.tup [.int (i : Nat), x]) ∧ ∀ xs, SqL K H a xs → xs[i]? = some x, fun i H => ∃ xs : List V, SqL K H a xs ∧ xs.length ≤ i⟩
theorem turn_enum {P : Program} {w : World} {K : PySem.W.Frag} {elts : List Expr} {kk : Nat} {tpos : Pos} (a e it : Addr) :
    Turn P w K (.Tuple elts kk tpos) (Ite K a) [e, it] e (fun i h => (∃ old, IsEnum h e it ((i : Nat) : Int) old) ∧ h.IsListIter it a i ∧ e ≠ it) where
  mem := by simp
  obj := fun i h st b hb => by
    obtain ⟨⟨old, he⟩, ⟨o, ho, hc, hd⟩, _⟩ := st
    have e' : b = e ∨ b = it := by simpa using hb
    rcases e' with z | z
    · rw [z]; exact ⟨_, he, fun v q => nomatch q⟩
    · rw [z]; exact ⟨o, ho, fun v q => by rw [hd] at q; cases q⟩
  keep := fun i h h' st k => let ⟨⟨old, he⟩, hi, hne⟩ := st; ⟨⟨old, k e (by simp) _ he⟩, hi.at fun o q => k it (by simp) o q, hne⟩
  item := by
    intro X hP hw hK hc i pins s σ H E I hf st hg
    subst hP hw hK
    obtain ⟨⟨old, he⟩, hit, hne⟩ := st
    obtain ⟨xs, x, hq, hx⟩ := hg
    obtain ⟨its, rv, p, hz⟩ := I.list hq
    obtain ⟨u, hu, ru⟩ := rv.get hx
    have hel : e < s.heap.objs.size := Heap.lt_size he
    have hil : it < s.heap.objs.size := by obtain ⟨_, q, _⟩ := hit; exact Heap.lt_size q
    refine wpAny_pyNext_enum_item he hit p.isList (x := u) (by simpa using hu) hne fun h' ho hit' hT hsz hk => ?_
    refine ⟨_, rfl, wpAny_letOwnedTupleGo_enum (s := { s with heap := h', toks := s.toks + 1 }) ho fun h'' he' sb => ?_⟩
    have hT2 : h''.get? s.heap.objs.size = some { cls := .type "tuple", data := .seq #[.int i s.toks, u] } := (sb.2 _ (Nat.ne_of_gt hel)).trans hT
    have new : ObjOk X.prog X.w (upd H s.heap.objs.size (.tup [.int (i : Nat), x])) h'' s.heap.objs.size (.tup [.int (i : Nat), x]) :=
      ⟨by show 2 ≤ sizeLine; decide, [.int i s.toks, u], .cons ⟨_, rfl⟩ (.cons ru .nil), ⟨_, hT2, rfl, _, rfl⟩⟩
    have I1 : Inv X pins σ (upd H s.heap.objs.size (.tup [.int (i : Nat), x])) { s with heap := h'', toks := s.toks + 1 } :=
      I.turnedNew (ch := [e, it]) (fun b ob hb q => (sb.2 b (fun z => hb (by simp [z]))).trans (hk b ob (fun z => hb (by simp [z])) (fun z => hb (by simp [z])) q)) hf (Nat.le_refl _) new
    refine ⟨.ref s.heap.objs.size, _, I1, rfl, ⟨_, x, rfl, I.hok.fresh (Nat.le_refl _), rfl, fun ys hy => by rw [I.list_inj hy hq]; exact hx⟩, ⟨⟨u, ?_⟩, hit'.at fun o q => (sb.2 it (Ne.symm hne)).trans q, hne⟩, fun b hb => ?_⟩
    · have e1 : ((i + 1 : Nat) : Int) = (i : Int) + 1 := by omega
      rw [e1]; exact he'
    · have hb' : b < s.heap.objs.size := by
        have e' : b = e ∨ b = it := by simpa using hb
        rcases e' with z | z
        · rw [z]; exact hel
        · rw [z]; exact hil
      rw [upd_ne (Nat.ne_of_lt hb')]
      exact (hf b hb).1
  done := by
    intro X hP hw hK hc i pins s σ H E I hf st hg
    subst hP hw hK
    obtain ⟨⟨old, he⟩, hit, hne⟩ := st
    obtain ⟨xs, hq, hx⟩ := hg
    obtain ⟨its, rv, p, hz⟩ := I.list hq
    obtain ⟨f0, f1, f2, f3, f4, f5⟩ := hf it (by simp)
    have hl := rv.length
    exact wpAny_pyNext_enum_end (I.ok.hd hc) he hit p.isList (by simp; omega) fun h' eb => ⟨rfl, I.turned (t' := s.toks) (fun b o hb q => eb b o hb q) f0 f1 f3 f4 f5⟩
  self := fun A i s Q E st h => let ⟨⟨_, he⟩, _⟩ := st; wpAny_pyIter_enum he h
def iEnum (K : PySem.W.Frag) (ta : TA) : TI := fun σ H R => ta σ H fun vs H1 => ∃ a xs, vs = [.ref a] ∧ SqL K H1 a xs ∧ R (Ite K a) H1
theorem pi_enum {X : Cx} {e : Expr} {ta : TA} {p pos tpos : Pos} {elts : List Expr} {kk : Nat} (hg : Gl X "enumerate") (hm : X.mg "enumerate" = none) (ha : PA X [e] ta) (hs : starEach [e] X.env = [(false, eval e X.env)] := by rfl) :
    PI X (.Tuple elts kk tpos) (.Call (.Name "enumerate" p) [e] [] pos) (iEnum X.K ta) := by
  intro pins s σ H R I h
  refine Call_ (ld_blt I hg hm boot_enumerate (PyProof.Rows.callWith_type1 (thn (ha pos pins s σ H _ I h) fun us s1 ⟨vs, H1, I1, r1, q1⟩ => ?_) hs rfl))
  obtain ⟨a, xs, ex, hq, q⟩ := q1
  subst ex
  cases r1 with
  | cons r rr =>
    cases rr
    cases r
    obtain ⟨its, rv, p', hz⟩ := I1.list hq
    refine call_enumerate_list p'.isList fun h' he hit hsz hk => wpAny_pyIter_enum he ?_
    have I2 : Inv X pins σ H1 { s1 with heap := h' } := I1.kept (t' := s1.toks) hk
    refine ⟨s1.heap.objs.size + 1, [s1.heap.objs.size + 1, s1.heap.objs.size], _, _, H1, rfl, I2, turn_enum a (s1.heap.objs.size + 1) s1.heap.objs.size, ⟨⟨.none, he⟩, hit, Nat.succ_ne_self _⟩, fun b hb => ?_, q⟩
    have e' : b = s1.heap.objs.size + 1 ∨ b = s1.heap.objs.size := by simpa using hb
    have hle : s1.heap.objs.size ≤ b := by
      rcases e' with z | z
      · rw [z]; exact Nat.le_add_right _ _
      · rw [z]; exact Nat.le_refl _
    exact I1.fpOk hle (I1.hok.fresh hle)
/-! ### zip(list, list) -/
theorem boot_zip5 : bootBuiltins "zip" = some (.type "zip") := by decide +kernel
/-- the lists at a and b as they stand at each turn, the items in new pairs -/
def Itz (K : PySem.W.Frag) (a b : Addr) : It :=
  ⟨fun i H => ∃ (xs ys : List V) (x y : V), SqL K H a xs ∧ SqL K H b ys ∧ xs[i]? = some x ∧ ys[i]? = some y,
    fun i H v H' => ∃ T x y, v = .ref T ∧ H T = none ∧ H' = upd H T (.tup [x, y]) ∧ (∀ xs, SqL K H a xs → xs[i]? = some x) ∧ ∀ ys, SqL K H b ys → ys[i]? = some y,
    fun i H => ∃ xs ys : List V, SqL K H a xs ∧ SqL K H b ys ∧ (xs.length ≤ i ∨ ys.length ≤ i)⟩
theorem turn_zip {P : Program} {w : World} {K : PySem.W.Frag} {elts : List Expr} {kk : Nat} {tpos : Pos} {a b z TI TO i1 i2 : Addr} (D : ZipApart z TI TO i1 i2 a b) :
    Turn P w K (.Tuple elts kk tpos) (Itz K a b) [z, TI, TO, i1, i2] z (fun i h => IsZip h z TI TO .none ∧ IsPair h TI (.ref i1) (.ref i2) ∧ (∃ x y, IsPair h TO x y) ∧ h.IsListIter i1 a i ∧ h.IsListIter i2 b i) where
  mem := by simp
  obj := fun i h st c hc => by
    obtain ⟨hz, hTI, ⟨x, y, hTO⟩, ⟨o1, e1, _, d1⟩, ⟨o2, e2, _, d2⟩⟩ := st
    have e' : c = z ∨ c = TI ∨ c = TO ∨ c = i1 ∨ c = i2 := by simpa using hc
    rcases e' with q | q | q | q | q
    · rw [q]; exact ⟨_, hz, fun v q => nomatch q⟩
    · rw [q]; exact ⟨_, hTI, fun v q => nomatch q⟩
    · rw [q]; exact ⟨_, hTO, fun v q => nomatch q⟩
    · rw [q]; exact ⟨o1, e1, fun v q => by rw [d1] at q; cases q⟩
    · rw [q]; exact ⟨o2, e2, fun v q => by rw [d2] at q; cases q⟩
  keep := fun i h h' st k => by
    obtain ⟨hz, hTI, ⟨x, y, hTO⟩, h1, h2⟩ := st
    exact ⟨k z (by simp) _ hz, k TI (by simp) _ hTI, ⟨x, y, k TO (by simp) _ hTO⟩, h1.at fun o q => k i1 (by simp) o q, h2.at fun o q => k i2 (by simp) o q⟩
  item := by
    intro X hP hw hK hc i pins s σ H E I hf st hg
    subst hP hw hK
    obtain ⟨hz, hTI, ⟨x0, y0, hTO⟩, h1, h2⟩ := st
    obtain ⟨xs, ys, x, y, hqx, hqy, hx, hy⟩ := hg
    obtain ⟨its, rv, p, _⟩ := I.list hqx
    obtain ⟨its2, rv2, p2, _⟩ := I.list hqy
    obtain ⟨u, hu, ru⟩ := rv.get hx
    obtain ⟨u2, hu2, ru2⟩ := rv2.get hy
    have hzl : z < s.heap.objs.size := Heap.lt_size hz
    refine wpAny_pyNext_zip_item D hz hTI hTO h1 h2 p.isList p2.isList (x := u) (y := u2) (by simpa using hu) (by simpa using hu2) fun h' z' TO' h1' h2' hT hsz hk => ?_
    refine ⟨_, rfl, wpAny_letOwnedTupleGo_zip (s := { s with heap := h' }) z' fun h'' z'' sb => ?_⟩
    have hT2 : h''.get? s.heap.objs.size = some { cls := .type "tuple", data := .seq #[u, u2] } := (sb.2 _ (Nat.ne_of_gt hzl)).trans hT
    have new : ObjOk X.prog X.w (upd H s.heap.objs.size (.tup [x, y])) h'' s.heap.objs.size (.tup [x, y]) :=
      ⟨by show 2 ≤ sizeLine; decide, [u, u2], .cons ru (.cons ru2 .nil), ⟨_, hT2, rfl, _, rfl⟩⟩
    have I1 : Inv X pins σ (upd H s.heap.objs.size (.tup [x, y])) { s with heap := h'' } :=
      I.turnedNew (t' := s.toks) (ch := [z, TI, TO, i1, i2]) (fun c o hb q => (sb.2 c (fun q' => hb (by simp [q']))).trans (hk c o (fun q' => hb (by simp [q'])) (fun q' => hb (by simp [q'])) (fun q' => hb (by simp [q'])) (fun q' => hb (by simp [q'])) q)) hf (Nat.le_refl _) new
    refine ⟨.ref s.heap.objs.size, _, I1, rfl, ⟨_, x, y, rfl, I.hok.fresh (Nat.le_refl _), rfl, fun l hl => by rw [I.list_inj hl hqx]; exact hx, fun l hl => by rw [I.list_inj hl hqy]; exact hy⟩, ⟨z'', ?_, ⟨u, u2, ?_⟩, ?_, ?_⟩, fun c hcm => ?_⟩
    · exact (sb.2 _ D.TIz).trans (hk _ _ D.TIz D.TITO D.TIi1 D.TIi2 hTI)
    · exact (sb.2 _ D.TOz).trans TO'
    · exact h1'.at fun o q => (sb.2 _ D.i1z).trans q
    · exact h2'.at fun o q => (sb.2 _ D.i2z).trans q
    · have hlt : c < s.heap.objs.size := by
        have e' : c = z ∨ c = TI ∨ c = TO ∨ c = i1 ∨ c = i2 := by simpa using hcm
        rcases e' with q | q | q | q | q
        · rw [q]; exact hzl
        · rw [q]; exact Heap.lt_size hTI
        · rw [q]; exact Heap.lt_size hTO
        · rw [q]; obtain ⟨_, e1, _⟩ := h1; exact Heap.lt_size e1
        · rw [q]; obtain ⟨_, e2, _⟩ := h2; exact Heap.lt_size e2
      rw [upd_ne (Nat.ne_of_lt hlt)]
      exact (hf c hcm).1
  done := by
    intro X hP hw hK hc i pins s σ H E I hf st hg
    subst hP hw hK
    obtain ⟨hz, hTI, ⟨x0, y0, hTO⟩, h1, h2⟩ := st
    obtain ⟨xs, ys, hqx, hqy, hend⟩ := hg
    obtain ⟨its, rv, p, _⟩ := I.list hqx
    obtain ⟨its2, rv2, p2, _⟩ := I.list hqy
    have l1 := rv.length
    have l2 := rv2.length
    have he : its.toArray[i]? = none ∨ its2.toArray[i]? = none := by
      rcases hend with q | q
      · exact .inl (by simp; omega)
      · exact .inr (by simp; omega)
    exact wpAny_pyNext_zip_end (I.ok.hd hc) D hz hTI hTO h1 h2 p.isList p2.isList he fun h' hk => ⟨rfl, I.turnedL (t' := s.toks) (ch := [z, TI, TO, i1, i2]) (fun c o hb q =>
      hk c o (fun q' => hb (by simp [q'])) (fun q' => hb (by simp [q'])) (fun q' => hb (by simp [q'])) (fun q' => hb (by simp [q'])) q) hf⟩
  self := fun A i s Q E st h => wpAny_pyIter_zip st.1 h
def iZip (K : PySem.W.Frag) (ta : TA) : TI := fun σ H R => ta σ H fun vs H1 => ∃ a b xs ys, vs = [.ref a, .ref b] ∧ SqL K H1 a xs ∧ SqL K H1 b ys ∧ R (Itz K a b) H1
theorem pi_zip {X : Cx} {e e2 : Expr} {ta : TA} {p pos tpos : Pos} {elts : List Expr} {kk : Nat} (hg : Gl X "zip") (hm : X.mg "zip" = none) (ha : PA X [e, e2] ta)
    (hs : starEach [e, e2] X.env = (false, eval e X.env) :: starEach [e2] X.env := by rfl) (hpl : (backTo pos (starEach [e2] X.env)).any (·.1) = false := by rfl) :
    PI X (.Tuple elts kk tpos) (.Call (.Name "zip" p) [e, e2] [] pos) (iZip X.K ta) := by
  intro pins s σ H R I h
  refine Call_ (ld_blt I hg hm boot_zip5 (PyProof.Rows.callWith_type1 (thn (ha pos pins s σ H _ I h) fun us s1 ⟨vs, H1, I1, r1, q1⟩ => ?_) hs hpl))
  obtain ⟨a, b, xs, ys, ex, hqx, hqy, q⟩ := q1
  subst ex
  cases r1 with
  | cons r rr =>
    cases rr with
    | cons r' rr =>
      cases rr
      cases r
      cases r'
      obtain ⟨its, rv, p1, _⟩ := I1.list hqx
      obtain ⟨its2, rv2, p2, _⟩ := I1.list hqy
      have la : a < s1.heap.objs.size := p1.lt
      have lb : b < s1.heap.objs.size := p2.lt
      refine call_zip_2 p1.isList p2.isList fun h' hz hTI hTO h1 h2 hsz hk => wpAny_pyIter_zip hz ?_
      have I2 : Inv X pins σ H1 { s1 with heap := h' } := I1.kept (t' := s1.toks) hk
      refine ⟨s1.heap.objs.size + 4, [s1.heap.objs.size + 4, s1.heap.objs.size + 2, s1.heap.objs.size + 3, s1.heap.objs.size, s1.heap.objs.size + 1], _, _, H1, rfl, I2, turn_zip (PySem.W.ktu_apart s1.heap.objs.size a b la lb), ⟨hz, hTI, ⟨_, _, hTO⟩, h1, h2⟩, fun c hcm => ?_, q⟩
      have e' : c = s1.heap.objs.size + 4 ∨ c = s1.heap.objs.size + 2 ∨ c = s1.heap.objs.size + 3 ∨ c = s1.heap.objs.size ∨ c = s1.heap.objs.size + 1 := by simpa using hcm
      have hle : s1.heap.objs.size ≤ c := by
        rcases e' with z | z | z | z | z
        · rw [z]; exact Nat.le_add_right _ _
        · rw [z]; exact Nat.le_add_right _ _
        · rw [z]; exact Nat.le_add_right _ _
        · rw [z]; exact Nat.le_refl _
        · rw [z]; exact Nat.le_add_right _ _
      exact I1.fpOk hle (I1.hok.fresh hle)
end L2
section 
namespace Bits
open PySem PyProof.Rows
end Bits
end 
section 
namespace TL
open PySem PySem.Builtin PySem.Builtin.Str PySem.StrLaws
/-! ### the list functions -/
/-! ### the model's split and partition are these -/
/-! ### computing spl and par -/
/-! ### digits -/
/-! ### words: x.split() -/
end TL
end 
namespace L2
open PySem PySem.Spec PyProof.Rows
section
variable {X : Cx} {pins : List (Addr × Obj)} {σ : St} {H : Hp} {s : Shared} {Q : VK}
end
section
variable {X : Cx}
/-! ### of a text alone -/
/-! ### of a text and a text -/
end
section
variable {X : Cx} {o e : Expr} {to te : TE}
end
end L2
namespace L2
open PySem PySem.Spec PyProof.Rows
section
variable {X : Cx}
end
/-! ### slices of a text -/
end L2
namespace Att
open PySem PySem.W PySem.Calls PyProof.Rows
/-! ### the script -/
/-! ### the attachment: holds_open's last premise (the goal 'hc' behind k_head) from a wpAny of the law's body -/
/-! ### rules over ANY heap (no ledger) from facts about the written part K: the library's own take a ledger (News) for what they write -/
section
variable {prog : Program} {w : World} {A : Around} {E : Value → Shared → Prop} {s : Shared} {K : Frag}
/-! the whole heap as the ledger: makes every rule that writes through a ledger a rule over any heap -/
end
end Att
namespace L2
open PySem PySem.Spec PyProof.Rows
end L2
namespace L2
open PySem PySem.Spec PyProof.Rows
end L2
/- THE LAST THEOREM (shape; LID, My.* are yours):
   My.Adr: a structure of the addresses that your layer names (classes, functions); My.Txt K t: a structure (Prop) of the equations over K;
   My.txt_mk : {K} {implicit addresses ..} (e1 : nsIn K mainGlobals "law" = some (some (.ref f))) (e2 : K.lookup f = some ⟨oc, od, .func (fnOf "law" "law" params body scope dV kV doc pm an cdv ct), sl⟩) (e3 : codeIn K cdv "law" = true) .. : ∃ t, My.Txt K t
set_option maxRecDepth 100000 in
set_option maxHeartbeats 0 in
theorem PySem.Challenge.cw_LID_holds : PySem.Challenge.rw_LID.Holds := by
  w_on; o_law; k_head; (case hw => w_witness2)
  k_fill
  refine L2.walk_of (l := PySem.Challenge.rw_LID) (n := 63) (k := 40) (x := "script") (CX := fun w => ..) (sp := fun _ => My.sp_law) rfl (by decide) rfl ⟨rfl, by decide, by decide⟩ (fun w h Y => PySem.W.kIn_of Y) ?F ?S ?C
  case F =>
    intro w mg fa h KX G hmg
    have T : ∃ t, My.Txt (L2.KOf KX) t := by
      dsimp only [L2.KOf]                          -- K must stand as «<heap const> w.params» for k_is
      refine' My.txt_mk ?e1 ?e2 ?e3 ..
      (case e1 => PySem.W.k_is)                    -- in the order: a name -> its address -> its object -> its parts
      (case e2 => PySem.W.k_is)
      ..
    obtain ⟨t, T⟩ := T
    have e0 := hmg.symm.trans (PySem.W.mg_of KX G T.law)
    cases e0                                       -- fa is the law's own address
    exact ⟨_, fun s u => .of_eq rfl, fun base kb nb => My.law_fn T kb nb⟩     -- if «.of_eq rfl» comes too early: refine' ⟨_, ?b, fun base kb nb => My.law_fn T kb nb⟩; exact fun s u => .of_eq rfl
  case S => exact fun w H a ns hl hO hS => ..
  case C => exact ..
(the tactic k_is has no namespace: write k_is) -/
/-! SHORT WORDS over the layer: a def of the text, its body, what a loop and a test want. -/
namespace L2
open PySem PySem.Spec PyProof.Rows
/-! ### the text by places -/
/-- the j-th statement of a class's body -/
def inClass (s : Stmt) (j : Nat) : Stmt := match s with
  | .ClassDef _ _ _ body _ _ _ _ _ _ _ => body.getD j (.Pass ⟨0, 0, 0, 0⟩)
  | _ => .Pass ⟨0, 0, 0, 0⟩
def defArgs (s : Stmt) : Arguments := match s with
  | .FunctionDef _ a _ _ _ _ _ _ _ _ => a
  | _ => { posonlyargs := [], args := [], vararg := none, kwonlyargs := [], kw_defaults := [], kwarg := none, defaults := [] }
def defBody (s : Stmt) : List Stmt := match s with
  | .FunctionDef _ _ b _ _ _ _ _ _ _ => b
  | _ => []
def defScope (s : Stmt) : Scope := match s with
  | .FunctionDef _ _ _ _ _ _ sc _ _ _ => sc
  | _ => { kind := .function, names := [], isGenerator := false, isCoroutine := false }
/-! ### no exception leaves a def -/
abbrev CX0 : CXT := fun _ _ _ _ _ _ => False
abbrev E0 : XK := fun _ _ _ => False
theorem pass0 {X : Cx} : Passes CX0 X E0 := fun _ _ _ _ _ _ _ h => h.elim
/-! ### a def (or method) of the text as it stands behind the top -/
structure Fun (K : PySem.W.Frag) (x qual : Str) (st : Stmt) (f : Addr) (fd : FuncData) : Prop where
  ex : ∃ (oc : Value) (od : Option Addr) (kV doc pm : Value) (an : Option Addr) (cdv ct : Value) (osl : Array (Option Value)),
    fd = PySem.W.fnOf x qual (defArgs st) (defBody st) (defScope st) .none kV doc pm an cdv ct ∧ K.lookup f = some ⟨oc, od, .func fd, osl⟩ ∧ PySem.W.codeIn K cdv qual = true
  kp : PySem.W.keepIn K (.ref f) = true
section
variable {P : Program} {w : World} {K : PySem.W.Frag} {mg : Str → Option Value} {base : Heap}
/-- THE RULE for a def: its body as a term of rules, and the reading of that term -/
theorem Fun.ok {x qual : Str} {st : Stmt} {f : Addr} {fd : FuncData} {N ps : List Str} {k : Nat} {sp : Sp} (F : Fun K x qual st f fd) (S : FnScope N ps (defScope st)) (len : ∀ vs H Q E, sp vs H Q E → vs.length = ps.length)
    (hbody : ∀ (cdv : Value) (A : Around) (outer : List Env) (s : Shared) (H : Hp) (vs : List V) (Q : VK) (E : XK), Room k (A.deeper (envOfC qual (defScope st) s.heap.objs.size f cdv)) → sp vs H Q E →
      ∃ t, PSs (cxOf CX0 P w K mg base N qual (defScope st) f cdv A outer s H E).nox (defBody st) t ∧ t { nx := fun _ H' => Q .non H', rt := Q } (start N vs) H) : FnOk P w K mg base CX0 (k + 1) f fd ps sp := by
  obtain ⟨oc, od, kV, doc, pm, an, cdv, ct, osl, rfl, lk, hcd⟩ := F.ex
  refine fn_of lk hcd S len fun A outer s H vs Q E hr hsp => ?_
  obtain ⟨t, h, q⟩ := hbody cdv A outer s H vs Q E hr hsp
  exact ⟨t, h.nox, q⟩
/-- how its arguments bind (no defaults): h is «fun _ _ _ _ _ _ us hl => match us, hl with | [_, _], _ => rfl», one _ a parameter -/
theorem Fun.binds {x qual : Str} {st : Stmt} {f : Addr} {fd : FuncData} {ps : List Str} (F : Fun K x qual st f fd)
    (h : ∀ (kV doc pm : Value) (an : Option Addr) (cdv ct : Value) (us : List Value), us.length = ps.length → bindArgs (PySem.W.fnOf x qual (defArgs st) (defBody st) (defScope st) .none kV doc pm an cdv ct) ⟨us, []⟩ = pure (ps.zip us)) : Binds K fd ps [] := by
  obtain ⟨oc, od, kV, doc, pm, an, cdv, ct, osl, rfl, lk, hcd⟩ := F.ex
  exact .all (h kV doc pm an cdv ct)
theorem fun_mk {x qual : Str} {st : Stmt} {f : Addr} {oc : Value} {od an : Option Addr} {osl : Array (Option Value)} {kV doc pm cdv ct : Value} (l : K.lookup f = some ⟨oc, od, .func (PySem.W.fnOf x qual (defArgs st) (defBody st) (defScope st) .none kV doc pm an cdv ct), osl⟩)
    (c : PySem.W.codeIn K cdv qual = true) (k : PySem.W.keepIn K (.ref f) = true) : Fun K x qual st f (PySem.W.fnOf x qual (defArgs st) (defBody st) (defScope st) .none kV doc pm an cdv ct) := ⟨⟨oc, od, kV, doc, pm, an, cdv, ct, osl, rfl, l, c⟩, k⟩
end
theorem hu_of {A : Around} {k : Nat} (hr : Room k A) : A.units + 1 < cLine := Nat.lt_of_le_of_lt (Nat.add_le_add_left (by decide : 1 ≤ 64) _) hr.units
/-! ### expressions in short: the name that stands in the i-th slot -/
section
variable {X : Cx}
theorem pv (i : Nat) {x : Str} {pos : Pos} (hN : X.N[i]? = some x := by rfl) (hv : Vis X.env.scope x := by first | exact Or.inl rfl | exact Or.inr (Or.inl rfl) | exact Or.inr (Or.inr rfl)) (hd : (x == ("__debug__" : Str)) = false := by decide)
    (hcd : (x == ("__classdict__" : Str)) = false := by decide) : PE X (.Name x pos) (tVar i) := pe_var hN hv hd hcd
/-- len of a dict -/
theorem call_lenD : CallR X (.builtin "len") (fun xs H Q => ∃ a kvs, xs = [V.ref a] ∧ H a = some (.dK kvs) ∧ Q (.int kvs.length) H) := by
  intro pins s σ H xs us Q I r h
  obtain ⟨a, kvs, rfl, ha, q⟩ := h
  obtain ⟨u, rfl, ru⟩ := vals1 r
  cases ru
  exact d_len I (.inl ha) fun t s' I' => ⟨.int kvs.length, H, I', ⟨t, rfl⟩, q⟩
end
/-! ### tests -/
theorem iteF {A B : Prop} (h : B) : if false = true then A else B := by
  rw [if_neg Bool.false_ne_true]
  exact h
theorem iteT {A B : Prop} (h : A) : if true = true then A else B := by
  rw [if_pos rfl]
  exact h
/-! ### heaps -/
/-- all that was tracked is as it was -/
def Same (H H' : Hp) : Prop := ∀ b o, H b = some o → H' b = some o
theorem Same.refl (H : Hp) : Same H H := fun _ _ h => h
theorem Same.trans {H H1 H2 : Hp} (a : Same H H1) (b : Same H1 H2) : Same H H2 := fun c o h => b c o (a c o h)
theorem Same.free {H H' : Hp} (e : Same H H') {l : Addr} (h : H' l = Option.none) : H l = Option.none := by
  cases q : H l with
  | none => rfl
  | some o =>
    rw [e l o q] at h
    cases h
theorem Same.seq {K : PySem.W.Frag} {H H' : Hp} {a : Addr} {xs : List V} (e : Same H H') (h : SqL K H a xs) : SqL K H' a xs := by
  rcases h with (h | ⟨o, h⟩) | h
  · exact .inl (.inl (e _ _ h))
  · exact .inl (.inr ⟨o, e _ _ h⟩)
  · exact .inr h
/-! ### a dict's pairs: keys that differ -/
section
variable {κ : Type} [DecidableEq κ]
theorem valV_not {kvs : List (κ × V)} {k : κ} (h : valV kvs k = none) : ¬ k ∈ kvs.map (·.1) := by
  intro m
  obtain ⟨p, hp, e⟩ := List.mem_map.mp m
  have q : (kvs.any fun kv => decide (kv.1 = k)) = true := List.any_eq_true.mpr ⟨p, hp, decide_eq_true e⟩
  rw [valV_any, h] at q
  exact absurd q (by simp)
theorem nd_snoc : ∀ {l : List κ} {k : κ}, l.Nodup → ¬ k ∈ l → (l ++ [k]).Nodup
  | [], k, _, _ => by simp
  | a :: r, k, h, hk => by
    obtain ⟨h1, h2⟩ := List.nodup_cons.mp h
    show (a :: (r ++ [k])).Nodup
    refine List.nodup_cons.mpr ⟨fun m => ?_, nd_snoc h2 fun m => hk (List.mem_cons.mpr (Or.inr m))⟩
    rcases List.mem_append.mp m with q | q
    · exact h1 q
    · exact hk (List.mem_cons.mpr (Or.inl (List.mem_singleton.mp q).symm))
theorem dropK_pos {p : κ × V} {r : List (κ × V)} {k : κ} (e : p.1 = k) : dropK (p :: r) k = dropK r k := by
  unfold dropK
  rw [List.filter_cons, if_neg (by simp [e])]
theorem dropK_neg {p : κ × V} {r : List (κ × V)} {k : κ} (e : ¬ p.1 = k) : dropK (p :: r) k = p :: dropK r k := by
  unfold dropK
  rw [List.filter_cons, if_pos (by simp [e])]
end
/-! ### lists -/
theorem nd_ix {α : Type} {l : List α} (hN : l.Nodup) {i j : Nat} {x : α} (a : l[i]? = some x) (b : l[j]? = some x) : i = j := by
  obtain ⟨h1, e1⟩ := List.getElem?_eq_some_iff.mp a
  obtain ⟨h2, e2⟩ := List.getElem?_eq_some_iff.mp b
  exact (List.getElem_inj hN).mp (e1.trans e2.symm)
/-- a new instance and its __init__ leave all that was tracked as it was -/
theorem Same.made {H H1 : Hp} {x dx C : Addr} (nx : H x = Option.none) (nd : H dx = Option.none) (k : ∀ b o, (upd (upd H dx (.own x)) x (.ins C dx [])) b = some o → b ≠ x → H1 b = some o) : Same H H1 := fun b o e =>
  k b o (by rw [upd_ne (ne_of_none e nx), upd_ne (ne_of_none e nd)]; exact e) (ne_of_none e nx)
end L2
section
namespace L2
open PySem PySem.Spec PyProof.Rows
open PySem.W (WData Codec OpenSpec Well WellAll ReadsW ReadsAllW)
/-! ### an answer as data -/
mutual
/-- x stands for the datum d, lists and tuples all the way -/
inductive Dw (K : PySem.W.Frag) (H : Hp) : V → WData → Prop
  | non : Dw K H .non .none
  | bl (b : Bool) : Dw K H (.bl b) (.bool b)
  | int (i : Int) : Dw K H (.int i) (.int i)
  | str (x : Str) : Dw K H (.str x) (.str x)
  | byt (b : Array UInt8) : Dw K H (.byt b) (.bytes b.toList)
  | lst {a : Addr} {xs : List V} {ds : List WData} : SqL K H a xs → DwAll K H xs ds → Dw K H (.ref a) (.list ds)
  | tup {a : Addr} {xs : List V} {ds : List WData} : SqT K H a xs → DwAll K H xs ds → Dw K H (.ref a) (.tuple ds)
inductive DwAll (K : PySem.W.Frag) (H : Hp) : List V → List WData → Prop
  | nil : DwAll K H [] []
  | cons {v : V} {vs : List V} {d : WData} {ds : List WData} : Dw K H v d → DwAll K H vs ds → DwAll K H (v :: vs) (d :: ds)
end
theorem dw_ints {K : PySem.W.Frag} {H : Hp} : ∀ ns : List Int, DwAll K H (ns.map V.int) (ns.map WData.int)
  | [] => .nil
  | n :: r => .cons (.int n) (dw_ints r)
theorem ints_dw {K : PySem.W.Frag} {H : Hp} : ∀ (ns : List Int) (xs : List V), DwAll K H xs (ns.map WData.int) → xs = ns.map V.int
  | [], xs, h => by
    cases h
    rfl
  | n :: r, xs, h => by
    cases h with
    | cons h1 h2 =>
      cases h1
      rw [ints_dw r _ h2] <;> rfl
section
variable {P : Program} {w : World} {K : PySem.W.Frag} {H : Hp} {h : Heap} {R : PySem.W.WRecords} {cl : Str → Option Addr}
theorem sqL_at {a : Addr} {xs : List V} (hok : HOk P w H h) (KX : K.In h) (q : SqL K H a xs) : ∃ (its : List Value) (o : Obj) (n : Nat), Vals xs its ∧ h.get? a = some o ∧ o.cls = .type "list" ∧ o.data = .seq its.toArray n := by
  rcases q with q | ⟨o, its, n, e, hc, _, hd, _, hv⟩
  · obtain ⟨_, its, n, hv, e⟩ := (show ObjOk P w H h a (.lst xs) from q.ok hok)
    exact ⟨its, _, n, hv, e, rfl, rfl⟩
  · exact ⟨its.toList, o, n, hv, KX _ _ e, hc, by simp [hd]⟩
theorem sqT_at {a : Addr} {xs : List V} (hok : HOk P w H h) (KX : K.In h) (q : SqT K H a xs) : ∃ (its : List Value) (o : Obj) (n : Nat), Vals xs its ∧ h.get? a = some o ∧ o.cls = .type "tuple" ∧ o.data = .seq its.toArray n := by
  rcases q with q | ⟨o, its, n, e, hc, hd, _, hv⟩
  · obtain ⟨_, its, hv, o, e, hc, n, hd⟩ := (show ObjOk P w H h a (.tup xs) from q.ok hok)
    exact ⟨its, o, n, hv, e, hc, hd⟩
  · exact ⟨its.toList, o, n, hv, KX _ _ e, hc, by simp [hd]⟩
mutual
theorem Dw.reads (hok : HOk P w H h) (KX : K.In h) : ∀ (d : WData) (v : V) (u : Value), Dw K H v d → RelV v u → ∃ as, ReadsW R cl h u d as
  | .none, _, _, x, r => by
    cases x
    cases r
    exact ⟨_, ReadsW.none⟩
  | .bool b, _, _, x, r => by
    cases x
    cases r
    exact ⟨_, ReadsW.bool b⟩
  | .int i, _, _, x, r => by
    cases x
    obtain ⟨t, rfl⟩ := r
    exact ⟨_, ReadsW.int i t⟩
  | .str s, _, _, x, r => by
    cases x
    obtain ⟨t, rfl⟩ := r
    exact ⟨_, ReadsW.str s t⟩
  | .bytes b, _, _, x, r => by
    cases x
    obtain ⟨t, rfl⟩ := r
    exact ⟨_, ReadsW.bytes _ t⟩
  | .list ds, _, _, x, r => by
    cases x with
    | lst hs ha =>
      cases r
      obtain ⟨its, o, n, rv, ho, hc, hd⟩ := sqL_at hok KX hs
      obtain ⟨as, hr⟩ := Dw.readsAll hok KX ds _ its ha rv
      exact ⟨_, ReadsW.list ho hc hd hr⟩
  | .tuple ds, _, _, x, r => by
    cases x with
    | tup hs ha =>
      cases r
      obtain ⟨its, o, n, rv, ho, hc, hd⟩ := sqT_at hok KX hs
      obtain ⟨as, hr⟩ := Dw.readsAll hok KX ds _ its ha rv
      exact ⟨_, ReadsW.tuple ho hc hd hr⟩
  | .float _, _, _, x, _ => by cases x
  | .dict _, _, _, x, _ => by cases x
  | .bytearray _, _, _, x, _ => by cases x
  | .set _, _, _, x, _ => by cases x
  | .frozenset _, _, _, x, _ => by cases x
  | .obj _ _, _, _, x, _ => by cases x
theorem Dw.readsAll (hok : HOk P w H h) (KX : K.In h) : ∀ (ds : List WData) (vs : List V) (us : List Value), DwAll K H vs ds → Vals vs us → ∃ as, ReadsAllW R cl h us ds as
  | [], _, _, x, r => by
    cases x
    cases r
    exact ⟨_, ReadsAllW.nil⟩
  | d :: ds, _, _, x, r => by
    cases x with
    | cons h1 h2 =>
      cases r with
      | cons r1 r2 =>
        obtain ⟨as, q1⟩ := Dw.reads hok KX d _ _ h1 r1
        obtain ⟨bs, q2⟩ := Dw.readsAll hok KX ds _ _ h2 r2
        exact ⟨_, ReadsAllW.cons q1 q2⟩
end
end
/-! ### the arguments -/
mutual
/-- data that a codec tells -/
def plW : WData → Bool
  | .none => true
  | .bool _ => true
  | .int _ => true
  | .str _ => true
  | .bytes _ => true
  | .list xs => plWs xs
  | .tuple xs => plWs xs
  | _ => false
def plWs : List WData → Bool
  | [] => true
  | x :: r => plW x && plWs r
end
theorem plWs_map {α : Type} {f : α → WData} (h : ∀ a, plW (f a) = true) : ∀ l : List α, plWs (l.map f) = true
  | [] => rfl
  | x :: r => by
    show (plW (f x) && plWs (r.map f)) = true
    rw [h x, plWs_map h r] <;> rfl
theorem pl_enc : ∀ (c : Codec) (a : c.denote), plW (c.enc a) = true
  | .unit, _ => rfl
  | .bool, _ => rfl
  | .int _ _, _ => rfl
  | .nat _ _, _ => rfl
  | .u8, _ => rfl
  | .bytes _ _, _ => rfl
  | .text _ _ _ _, _ => rfl
  | .list _ _ c, a => plWs_map (fun x => pl_enc c x) a
  | .pair c d, a => by
    show (plW (c.enc a.1) && (plW (d.enc a.2) && true)) = true
    rw [pl_enc c a.1, pl_enc d a.2] <;> rfl
  | .triple c d e, a => by
    show (plW (c.enc a.1) && (plW (d.enc a.2.1) && (plW (e.enc a.2.2) && true))) = true
    rw [pl_enc c a.1, pl_enc d a.2.1, pl_enc e a.2.2] <;> rfl
  | .option c, none => rfl
  | .option c, some x => pl_enc c x
theorem pl_encAll : ∀ (cs : List Codec) (a : Codec.denoteAll cs), plWs (Codec.encAll cs a) = true
  | [], _ => rfl
  | c :: cs, a => by
    show (plW (c.enc a.1) && plWs (Codec.encAll cs a.2)) = true
    rw [pl_enc c a.1, pl_encAll cs a.2] <;> rfl
theorem weight_mem : ∀ {xs : List WData} {d : WData}, d ∈ xs → d.weight ≤ WData.weightAll xs
  | [], d, h => absurd h (by simp)
  | x :: r, d, h => by
    show d.weight ≤ x.weight + 1 + WData.weightAll r
    rcases List.mem_cons.mp h with e | m
    · rw [e]
      omega
    · have z := weight_mem m
      omega
def toV : Value → V
  | .none => .non
  | .bool b => .bl b
  | .int i _ => .int i
  | .str x _ => .str x
  | .bytes b _ => .byt b
  | .ref a => .ref a
  | _ => .non
/-- a value of the arguments, its objects among A -/
def OkU (A : List Addr) : Value → Prop
  | .none => True
  | .bool _ => True
  | .int _ _ => True
  | .str _ _ => True
  | .bytes _ _ => True
  | .ref a => a ∈ A
  | _ => False
theorem OkU.mono {A B : List Addr} (h : ∀ a ∈ A, a ∈ B) : ∀ {u : Value}, OkU A u → OkU B u := fun {u} x => by
  cases u with
  | ref a => exact h a x
  | none => trivial
  | bool b => trivial
  | int i t => trivial
  | str s t => trivial
  | bytes b t => trivial
  | _ => exact False.elim x
theorem relV_toV {A : List Addr} {u : Value} (x : OkU A u) : RelV (toV u) u := by
  cases u with
  | ref a => rfl
  | none => rfl
  | bool b => rfl
  | int i t => exact ⟨t, rfl⟩
  | str s t => exact ⟨t, rfl⟩
  | bytes b t => exact ⟨t, rfl⟩
  | _ => exact False.elim x
theorem vals_toV {A : List Addr} : ∀ {vs : List Value}, (∀ u ∈ vs, OkU A u) → Vals (vs.map toV) vs
  | [], _ => .nil
  | u :: r, h => .cons (relV_toV (h u (List.mem_cons_self ..))) (vals_toV fun x hx => h x (List.mem_cons_of_mem _ hx))
/-- an object of the arguments -/
def ArgOb (h : Heap) (A : List Addr) (a : Addr) : Prop := ∃ vs : List Value, vs.length ≤ sizeLine ∧ (∀ u ∈ vs, OkU A u) ∧
  (h.get? a = some { cls := .type "list", data := .seq vs.toArray } ∨ h.get? a = some { cls := .type "tuple", data := .seq vs.toArray })
theorem ArgOb.mono {h : Heap} {A B : List Addr} {a : Addr} (k : ∀ a ∈ A, a ∈ B) (x : ArgOb h A a) : ArgOb h B a := by
  obtain ⟨vs, h1, h2, h3⟩ := x
  exact ⟨vs, h1, fun u hu => (h2 u hu).mono k, h3⟩
theorem wellAll_len {P : Params} {h : Heap} : ∀ {vs : List Value} {ds : List WData}, WellAll P h vs ds → vs.length = ds.length
  | _, _, .nil => rfl
  | _, _, .cons _ b => by
    show _ + 1 = _ + 1
    rw [wellAll_len b]
theorem well_list {P : Params} {h : Heap} {v : Value} {ds : List WData} (x : Well P h v (.list ds)) : ∃ (a : Addr) (vs : List Value), v = .ref a ∧ h.get? a = some { cls := .type "list", data := .seq vs.toArray } ∧ WellAll P h vs ds := by
  cases x with
  | list ho hall => exact ⟨_, _, rfl, ho, hall⟩
theorem well_tuple {P : Params} {h : Heap} {v : Value} {ds : List WData} (x : Well P h v (.tuple ds)) : ∃ (a : Addr) (vs : List Value), v = .ref a ∧ h.get? a = some { cls := .type "tuple", data := .seq vs.toArray } ∧ WellAll P h vs ds := by
  cases x with
  | tuple ho hall => exact ⟨_, _, rfl, ho, hall⟩
theorem well_cons {P : Params} {h : Heap} {us : List Value} {d : WData} {ds : List WData} (x : WellAll P h us (d :: ds)) : ∃ (v : Value) (vs : List Value), us = v :: vs ∧ Well P h v d ∧ WellAll P h vs ds := by
  cases x with
  | cons a b => exact ⟨_, _, rfl, a, b⟩
theorem line_of {n : Nat} (h : n ≤ 1048576) : n ≤ sizeLine := Nat.le_trans h (by decide)
section
variable {P : Params} {h : Heap}
mutual
theorem area_one : ∀ (d : WData) (v : Value), Well P h v d → plW d = true → d.weight ≤ 1048576 → ∃ A : List Addr, OkU A v ∧ ∀ a ∈ A, ArgOb h A a
  | .none, _, x, _, _ => by
    cases x
    exact ⟨[], trivial, fun a m => absurd m (by simp)⟩
  | .bool b, _, x, _, _ => by
    cases x
    exact ⟨[], trivial, fun a m => absurd m (by simp)⟩
  | .int i, _, x, _, _ => by
    cases x
    exact ⟨[], trivial, fun a m => absurd m (by simp)⟩
  | .str s, _, x, _, _ => by
    cases x
    exact ⟨[], trivial, fun a m => absurd m (by simp)⟩
  | .bytes b, _, x, _, _ => by
    cases x
    exact ⟨[], trivial, fun a m => absurd m (by simp)⟩
  | .list ds, _, x, p, z => by
    obtain ⟨a, vs, rfl, ho, hall⟩ := well_list x
    have z2 : WData.weightAll ds ≤ 1048576 := z
    obtain ⟨A, h1, h2⟩ := area_all ds _ hall p fun d hd => Nat.le_trans (weight_mem hd) z2
    have k : ∀ b ∈ A, b ∈ a :: A := fun b hb => List.mem_cons_of_mem _ hb
    refine ⟨a :: A, List.mem_cons_self .., fun b hb => ?_⟩
    rcases List.mem_cons.mp hb with e | m
    · rw [e]
      exact ⟨vs, line_of (by rw [wellAll_len hall]; exact Nat.le_trans (PySem.W.length_le_weightAllW ds) z2), fun u hu => (h1 u hu).mono k, .inl ho⟩
    · exact (h2 b m).mono k
  | .tuple ds, _, x, p, z => by
    obtain ⟨a, vs, rfl, ho, hall⟩ := well_tuple x
    have z2 : WData.weightAll ds ≤ 1048576 := z
    obtain ⟨A, h1, h2⟩ := area_all ds _ hall p fun d hd => Nat.le_trans (weight_mem hd) z2
    have k : ∀ b ∈ A, b ∈ a :: A := fun b hb => List.mem_cons_of_mem _ hb
    refine ⟨a :: A, List.mem_cons_self .., fun b hb => ?_⟩
    rcases List.mem_cons.mp hb with e | m
    · rw [e]
      exact ⟨vs, line_of (by rw [wellAll_len hall]; exact Nat.le_trans (PySem.W.length_le_weightAllW ds) z2), fun u hu => (h1 u hu).mono k, .inr ho⟩
    · exact (h2 b m).mono k
  | .float _, _, _, p, _ => Bool.noConfusion (show false = true from p)
  | .dict _, _, _, p, _ => Bool.noConfusion (show false = true from p)
  | .bytearray _, _, _, p, _ => Bool.noConfusion (show false = true from p)
  | .set _, _, _, p, _ => Bool.noConfusion (show false = true from p)
  | .frozenset _, _, _, p, _ => Bool.noConfusion (show false = true from p)
  | .obj _ _, _, _, p, _ => Bool.noConfusion (show false = true from p)
theorem area_all : ∀ (ds : List WData) (vs : List Value), WellAll P h vs ds → plWs ds = true → (∀ d ∈ ds, d.weight ≤ 1048576) → ∃ A : List Addr, (∀ u ∈ vs, OkU A u) ∧ ∀ a ∈ A, ArgOb h A a
  | [], _, x, _, _ => by
    cases x
    exact ⟨[], fun u m => absurd m (by simp), fun a m => absurd m (by simp)⟩
  | d :: ds, _, x, p, z => by
    obtain ⟨v, vs, rfl, x1, x2⟩ := well_cons x
    have q : plW d = true ∧ plWs ds = true := Bool.and_eq_true_iff.mp p
    obtain ⟨A, a1, a2⟩ := area_one d v x1 q.1 (z d (List.mem_cons_self ..))
    obtain ⟨B, b1, b2⟩ := area_all ds vs x2 q.2 fun e he => z e (List.mem_cons_of_mem _ he)
    have kA : ∀ b ∈ A, b ∈ A ++ B := fun b hb => List.mem_append.mpr (.inl hb)
    have kB : ∀ b ∈ B, b ∈ A ++ B := fun b hb => List.mem_append.mpr (.inr hb)
    refine ⟨A ++ B, fun u hu => ?_, fun b hb => ?_⟩
    · rcases List.mem_cons.mp hu with e | m
      · rw [e]
        exact a1.mono kA
      · exact (b1 u m).mono kB
    · rcases List.mem_append.mp hb with m | m
      · exact (a2 b m).mono kA
      · exact (b2 b m).mono kB
end
end
/-- what is tracked of an argument's object -/
def hoOf (o : Obj) : Option HO := match o.data with
  | .seq vs _ => if (o.cls == Value.type "list") = true then some (.frz o (.lst (vs.toList.map toV))) else some (.frz o (.tup (vs.toList.map toV)))
  | _ => none
def argH (K : PySem.W.Frag) (h : Heap) (A : List Addr) : Hp := fun b => if b ∈ A then (if (K.lookup b).isNone = true then (h.get? b).bind hoOf else none) else none
/-- nothing is tracked but what is known to the object -/
def OnlyF (H : Hp) : Prop := ∀ b, H b = none ∨ ∃ o u, H b = some (.frz o u)
theorem hoOf_lst (vs : List Value) : hoOf { cls := .type "list", data := .seq vs.toArray } = some (.frz { cls := .type "list", data := .seq vs.toArray } (.lst (vs.map toV))) := by
  show (if (Value.type "list" == Value.type "list") = true then some (HO.frz { cls := .type "list", data := .seq vs.toArray } (.lst (vs.toArray.toList.map toV))) else some (HO.frz { cls := .type "list", data := .seq vs.toArray } (.tup (vs.toArray.toList.map toV)))) = _
  rw [if_pos (beq_self_eq_true _)]
theorem hoOf_tup (vs : List Value) : hoOf { cls := .type "tuple", data := .seq vs.toArray } = some (.frz { cls := .type "tuple", data := .seq vs.toArray } (.tup (vs.map toV))) := by
  show (if (Value.type "tuple" == Value.type "list") = true then some (HO.frz { cls := .type "tuple", data := .seq vs.toArray } (.lst (vs.toArray.toList.map toV))) else some (HO.frz { cls := .type "tuple", data := .seq vs.toArray } (.tup (vs.toArray.toList.map toV)))) = _
  rw [if_neg (by decide)]
section
variable {P : Program} {w : World} {K : PySem.W.Frag} {h : Heap} {A : List Addr}
theorem argH_at {b : Addr} {o : Obj} (hb : b ∈ A) (hk : K.lookup b = none) (e : h.get? b = some o) : argH K h A b = hoOf o := by
  unfold argH
  rw [if_pos hb, hk, if_pos (show (none : Option Obj).isNone = true from rfl), e] <;> rfl
theorem of_argH {b : Addr} {u : HO} (q : argH K h A b = some u) : b ∈ A ∧ K.lookup b = none := by
  unfold argH at q
  by_cases hb : b ∈ A
  · rw [if_pos hb] at q
    cases hk : K.lookup b with
    | none => exact ⟨hb, rfl⟩
    | some o =>
      rw [hk, if_neg (by simp)] at q
      cases q
  · rw [if_neg hb] at q
    cases q
/-- what stands tracked -/
theorem argH_is (ar : ∀ a ∈ A, ArgOb h A a) {b : Addr} {u : HO} (q : argH K h A b = some u) : K.lookup b = none ∧ ∃ vs : List Value, vs.length ≤ sizeLine ∧ (∀ u ∈ vs, OkU A u) ∧
    ((h.get? b = some { cls := .type "list", data := .seq vs.toArray } ∧ u = .frz { cls := .type "list", data := .seq vs.toArray } (.lst (vs.map toV))) ∨
     (h.get? b = some { cls := .type "tuple", data := .seq vs.toArray } ∧ u = .frz { cls := .type "tuple", data := .seq vs.toArray } (.tup (vs.map toV)))) := by
  obtain ⟨hb, hk⟩ := of_argH q
  obtain ⟨vs, h1, h2, h3⟩ := ar b hb
  refine ⟨hk, vs, h1, h2, ?_⟩
  rcases h3 with e | e
  · rw [argH_at hb hk e, hoOf_lst] at q
    exact .inl ⟨e, (Option.some.inj q).symm⟩
  · rw [argH_at hb hk e, hoOf_tup] at q
    exact .inr ⟨e, (Option.some.inj q).symm⟩
theorem argH_only (ar : ∀ a ∈ A, ArgOb h A a) : OnlyF (argH K h A) := fun b => by
  cases q : argH K h A b with
  | none => exact .inl rfl
  | some u =>
    obtain ⟨_, vs, _, _, ⟨_, e⟩ | ⟨_, e⟩⟩ := argH_is ar q
    · exact .inr ⟨_, _, by rw [e]⟩
    · exact .inr ⟨_, _, by rw [e]⟩
theorem argH_ok (ar : ∀ a ∈ A, ArgOb h A a) : HOk P w (argH K h A) h := fun b u q => by
  obtain ⟨_, vs, h1, h2, ⟨e, rfl⟩ | ⟨e, rfl⟩⟩ := argH_is ar q
  · exact ⟨e, by rw [List.length_map]; exact h1, vs, _, vals_toV h2, e⟩
  · exact ⟨e, by rw [List.length_map]; exact h1, vs, vals_toV h2, _, e, rfl, _, rfl⟩
theorem seq_inj {c c' : Value} {vs us : List Value} (e : (some { cls := c, data := .seq vs.toArray } : Option Obj) = some { cls := c', data := .seq us.toArray }) : c = c' ∧ vs = us := by
  have e1 := Option.some.inj e
  have e2 : c = c' := congrArg Obj.cls e1
  have e3 : Data.seq vs.toArray = Data.seq us.toArray := congrArg Obj.data e1
  injection e3 with e4
  refine ⟨e2, ?_⟩
  have e5 := congrArg Array.toList e4
  simpa using e5
/-- a list argument -/
theorem argL (KX : K.In h) (ar : ∀ a ∈ A, ArgOb h A a) {a : Addr} {vs : List Value} (ha : a ∈ A) (e : h.get? a = some { cls := .type "list", data := .seq vs.toArray }) : (∀ u ∈ vs, OkU A u) ∧ SqL K (argH K h A) a (vs.map toV) := by
  obtain ⟨us, h1, h2, h3⟩ := ar a ha
  have hu : us = vs := by
    rcases h3 with q | q
    · rw [e] at q
      exact (seq_inj q).2.symm
    · rw [e] at q
      exact absurd (Value.type.inj (seq_inj q).1) (by decide)
  subst hu
  refine ⟨h2, ?_⟩
  cases hk : K.lookup a with
  | none => exact .inl (.inr ⟨_, by rw [argH_at ha hk e, hoOf_lst]⟩)
  | some o =>
    have e2 := KX a o hk
    rw [e] at e2
    obtain rfl := Option.some.inj e2
    exact .inr ⟨_, us.toArray, _, hk, rfl, rfl, rfl, by rw [List.size_toArray]; exact h1, by simpa using vals_toV h2⟩
theorem argT (KX : K.In h) (ar : ∀ a ∈ A, ArgOb h A a) {a : Addr} {vs : List Value} (ha : a ∈ A) (e : h.get? a = some { cls := .type "tuple", data := .seq vs.toArray }) : (∀ u ∈ vs, OkU A u) ∧ SqT K (argH K h A) a (vs.map toV) := by
  obtain ⟨us, h1, h2, h3⟩ := ar a ha
  have hu : us = vs := by
    rcases h3 with q | q
    · rw [e] at q
      exact absurd (Value.type.inj (seq_inj q).1) (by decide)
    · rw [e] at q
      exact (seq_inj q).2.symm
  subst hu
  refine ⟨h2, ?_⟩
  cases hk : K.lookup a with
  | none => exact .inl (.inr ⟨_, by rw [argH_at ha hk e, hoOf_tup]⟩)
  | some o =>
    have e2 := KX a o hk
    rw [e] at e2
    obtain rfl := Option.some.inj e2
    exact .inr ⟨_, us.toArray, _, hk, rfl, rfl, by rw [List.size_toArray]; exact h1, by simpa using vals_toV h2⟩
mutual
theorem dw_one {Pm : Params} (KX : K.In h) (ar : ∀ a ∈ A, ArgOb h A a) : ∀ (d : WData) (v : Value), Well Pm h v d → plW d = true → OkU A v → Dw K (argH K h A) (toV v) d
  | .none, _, x, _, _ => by
    cases x
    exact .non
  | .bool b, _, x, _, _ => by
    cases x
    exact .bl b
  | .int i, _, x, _, _ => by
    cases x
    exact .int i
  | .str s, _, x, _, _ => by
    cases x
    exact .str s
  | .bytes b, _, x, _, _ => by
    cases x
    have z := Dw.byt (K := K) (H := argH K h A) b.toArray
    exact z
  | .list ds, _, x, p, hu => by
    obtain ⟨a, vs, rfl, ho, hall⟩ := well_list x
    obtain ⟨h2, hs⟩ := argL KX ar hu ho
    exact .lst hs (dw_all KX ar ds _ hall p h2)
  | .tuple ds, _, x, p, hu => by
    obtain ⟨a, vs, rfl, ho, hall⟩ := well_tuple x
    obtain ⟨h2, hs⟩ := argT KX ar hu ho
    exact .tup hs (dw_all KX ar ds _ hall p h2)
  | .float _, _, _, p, _ => Bool.noConfusion (show false = true from p)
  | .dict _, _, _, p, _ => Bool.noConfusion (show false = true from p)
  | .bytearray _, _, _, p, _ => Bool.noConfusion (show false = true from p)
  | .set _, _, _, p, _ => Bool.noConfusion (show false = true from p)
  | .frozenset _, _, _, p, _ => Bool.noConfusion (show false = true from p)
  | .obj _ _, _, _, p, _ => Bool.noConfusion (show false = true from p)
theorem dw_all {Pm : Params} (KX : K.In h) (ar : ∀ a ∈ A, ArgOb h A a) : ∀ (ds : List WData) (vs : List Value), WellAll Pm h vs ds → plWs ds = true → (∀ u ∈ vs, OkU A u) → DwAll K (argH K h A) (vs.map toV) ds
  | [], _, x, _, _ => by
    cases x
    exact .nil
  | d :: ds, _, x, p, hu => by
    obtain ⟨v, vs, rfl, x1, x2⟩ := well_cons x
    have q : plW d = true ∧ plWs ds = true := Bool.and_eq_true_iff.mp p
    exact .cons (dw_one KX ar d v x1 q.1 (hu _ (List.mem_cons_self ..))) (dw_all KX ar ds vs x2 q.2 fun u m => hu u (List.mem_cons_of_mem _ m))
end
end
/-! ### the call -/
/-! ### the row -/
theorem layable_weight {ds : List WData} (h : WData.layableAll ds = true) : ∀ d ∈ ds, d.weight ≤ 1048576 := fun d hd =>
  (PySem.W.layableW_iff.mp (List.all_eq_true.mp h d hd)).2.2
theorem encAll_len : ∀ (cs : List Codec) (a : Codec.denoteAll cs), (Codec.encAll cs a).length = cs.length
  | [], _ => rfl
  | c :: cs, a => by
    show (Codec.encAll cs a.2).length + 1 = cs.length + 1
    rw [encAll_len cs a.2]
end L2
end
namespace L2
open PySem PySem.Spec PyProof.Rows
/-! ### set(xs) of ints, len of it -/
section
variable {X : Cx}
theorem range_getD : ∀ (ns : List Int), (List.range ns.length).map (fun i => ns.getD i 0) = ns := fun ns => by
  apply List.ext_getElem
  · simp
  · intro i h1 h2
    simp at h1
    simp [h1]
theorem cr_set (hc : X.calm = true) : CallR X (.type "set") (fun vs H Q => ∃ (a : Addr) (ns : List Int), vs = [V.ref a] ∧ SqL X.K H a (ns.map V.int) ∧ ns.length < 1000 ∧
    ∀ p, H p = none → Q (.ref p) (upd H p (.set (fun k => (ns.foldl step_dedup []).any (· == k)) (ns.foldl step_dedup []).length))) := by
  intro pins s σ H vs us Q I r h
  obtain ⟨a, ns, rfl, hs, hz, q⟩ := h
  obtain ⟨its, rv, hl, _⟩ := I.list hs
  rw [Vals.ref1 r]
  have hlen : its.length = ns.length := by rw [← rv.length, List.length_map]
  refine PySem.call_set_list (items := its.toArray) (ns := ns) (I.ok.hd hc) hl.isList (by simpa using rv.ints) (by rw [List.size_toArray, hlen]; unfold scanBound; omega) fun h' tk hS hk => ?_
  have hsz : its.toArray.size = ns.length := by rw [List.size_toArray]; exact hlen
  rw [hsz] at hS
  have e : firstMet (fun i => ns.getD i 0) ns.length = ns.foldl step_dedup [] := by unfold firstMet; rw [range_getD]
  rw [e] at hS
  exact ⟨.ref s.heap.objs.size, _, I.laid (t' := tk) (fun b o q => hk b o (Heap.lt_size q) q) (Nat.le_refl _) (o := .set (fun k => (ns.foldl step_dedup []).any (· == k)) (ns.foldl step_dedup []).length) hS, rfl, q _ I.fresh⟩
theorem cr_lenset : CallR X (.builtin "len") (fun vs H Q => ∃ p S n, vs = [V.ref p] ∧ H p = some (.set S n) ∧ Q (.int n) H) := by
  intro pins s σ H vs us Q I r h
  obtain ⟨p, S, n, rfl, hp, q⟩ := h
  rw [Vals.ref1 r]
  obtain ⟨o, es, ep, t, ho, hex, hd, _, _, hb, hf, hn⟩ := (show ObjOk X.prog X.w H s.heap p (.set S n) from I.hok p _ hp)
  exact call_len_set ho hex hd hf (by unfold scanBound at hb; omega) ⟨.int n, H, I.tok _, ⟨_, by rw [hn]⟩, q⟩
end
/-! ### a call of a function that an expression gives -/
section
variable {X : Cx} {fe e : Expr} {es : List Expr} {tf : TE} {t : TA} {pos : Pos}
def tCallE (X : Cx) (CX : CXT) (E : XK) (tf : TE) (t : TA) : TE := fun σ H Q => tf σ H fun x H1 => ∃ (f : Addr) (k : Nat) (fd : FuncData) (ps : List Str) (sp : Sp), x = .ref f ∧
  FnOk X.prog X.w X.K X.mg X.base CX k f fd ps sp ∧ Room k X.A ∧ PySem.W.keepIn X.K (.ref f) = true ∧ Binds X.K fd ps [] ∧ t σ H1 fun vs H2 => sp vs H2 Q E
theorem pe_callE {CX : CXT} {E : XK} (hf : PE X fe tf) (hx : Passes CX X E) (ha : PA X (e :: es) t)
    (hev : eval (.Call fe (e :: es) [] pos) X.env = (do callWith pos (← eval fe X.env) [] (backTo pos (starEach (e :: es) X.env)) (backToKw pos (keywordEach [] X.env))) := by rfl)
    (he : starEach (e :: es) X.env = (false, eval e X.env) :: starEach es X.env := by rfl) (hpl : (backTo pos (starEach es X.env)).any (·.1) = false := by rfl) :
    PE X (.Call fe (e :: es) [] pos) (tCallE X CX E tf t) := by
  intro pins s σ H Q I h
  refine Call_ (thn (hf pins s σ H _ I h) fun v s1 ⟨x, H1, I1, r1, f, k, fd, ps, sp, ex, F, hr, hk, hb, q⟩ => ?_) hev
  subst ex
  cases r1
  refine PySem.W.callWith_K (h₀ := X.base) I.ok.mod.kin hk (thn (ha pos pins s1 σ H1 _ I1 q) fun us s2 ⟨vs, H2, I2, r2, q2⟩ => ⟨I2.kIn, ?_⟩) he hpl
  exact run_fn (dvs := []) (ds := []) F hr hb .nil hx I2 r2 (by rw [List.append_nil]; exact q2)
end
/-! ### a dict of the text's top, keyed by ints -/
def GDict (K : PySem.W.Frag) (a : Addr) (k : Int) (v : V) : Prop := ∃ (o : Obj) (es : Array DictEntry) (ep : Nat) (u : Value), K.lookup a = some o ∧ o.cls = .type "dict" ∧ o.dict = none ∧ o.slots = #[] ∧ o.data = .dict es ep ∧
  (es.all fun d => match d.key with | .int i _ => d.hash == hashInt i | _ => false) = true ∧ (es.find? fun d => Value.isInt k d.key).map (·.val) = some u ∧ RelV v u
section
variable {X : Cx}
theorem ix_gdict : IxR X (fun x y H Q => ∃ p k v, x = .ref p ∧ y = .int k ∧ GDict X.K p k v ∧ Q v H) := by
  intro value slice pins s σ H x y v u Q I rx ry h hs
  obtain ⟨p, k, z, rfl, rfl, ⟨o, es, ep, w', hk, h1, h2, h3, h4, h5, h6, h7⟩, q⟩ := h
  cases rx
  obtain ⟨t, rfl⟩ := ry
  have ho := I.kIn p o hk
  have hm : s.heap.MapOf (PySem.intKind X.prog X.w) p (findBy Value.isInt es) := by
    refine ⟨o, es, ep, ho, ⟨h1, h2, h3⟩, h4, fun d hd => ?_, fun k' => rfl⟩
    have q5 := (Array.all_eq_true_iff_forall_mem.mp h5) d hd
    cases hkey : d.key with
    | int i t' =>
      rw [hkey] at q5
      exact ⟨i, by simp [PySem.intKind, Value.isInt], eq_of_beq q5⟩
    | _ => rw [hkey] at q5; cases q5
  exact subscriptTail_builtinR (x := w') hm.typeIs PySem.F.slot_dict_getitem.lookup
    (wpAny_getItem_of (Q := fun r s' => r = w' ∧ EP X pins σ Q r s') (knd := PySem.intKind X.prog X.w) (k := k) (by simp [PySem.intKind, Value.isInt]) hm h6 ⟨rfl, ⟨z, H, I.tok _, h7, q⟩⟩) hs
end
end L2
namespace L2
open PySem PySem.Spec PyProof.Rows
theorem take_snoc {α : Type} {l : List α} {i : Nat} {x : α} (h : l[i]? = some x) : l.take (i + 1) = l.take i ++ [x] := by
  rw [List.take_add_one, h]; rfl
theorem at_map {α : Type} {L : List α} {e : α → V} {i : Nat} {x : V} (h : (L.map e)[i]? = some x) : ∃ z, L[i]? = some z ∧ x = e z := by
  rw [List.getElem?_map] at h
  obtain ⟨z, h1, h2⟩ := Option.map_eq_some_iff.mp h
  exact ⟨z, h1, h2.symm⟩
/-- [f z for z in L if p z]: each turn only makes new things -/
theorem lc_mapL {α : Type} {K : PySem.W.Frag} {a : Addr} {g : TG} {tt : TT} {te : TE} {vs : List Nat} {σ : St} {H1 : Hp} {D : Addr} {Qd : Hp → Prop} (L : List α) (e : α → V) (p : α → Bool) (f : α → V)
    (hD : H1 D = none) (hl : SqL K H1 a (L.map e)) (hz : L.length < 1000)
    (step : ∀ (i : Nat) (z : α) (H : Hp) (Tr : V → Hp → Prop) (Fa : Hp → Prop), L[i]? = some z → Same H1 H → (p z = true → ∀ H4, Same H H4 → Tr (f z) H4) → (p z = false → ∀ H3, Same H H3 → Fa H3) →
      g (e z) (wipe σ vs) H fun σ2 H2 => wipe σ2 vs = wipe σ vs ∧ tt σ2 H2 fun b H3 => if b = true then te σ2 H3 Tr else Fa H3)
    (hd : ∀ H, Same H1 H → H D = some (.lst ((L.filter p).map f)) → Qd H) :
    ∃ W : Nat → Nat → Hp → Prop, (∃ m, W 0 m (upd H1 D (.lst []))) ∧ ∀ i m H, W i m H →
      ((Itl K a).stop i H ∧ Qd H) ∨ ((Itl K a).go i H ∧ ∃ Nx : Hp → Prop, (∀ H', Nx H' → ∃ m', m' < m ∧ W (i + 1) m' H') ∧ ∀ x H', (Itl K a).yld i H x H' → g x (wipe σ vs) H' fun σ2 H2 => wipe σ2 vs = wipe σ vs ∧ tt σ2 H2 fun b H3 =>
        if b = true then te σ2 H3 fun y H4 => ∃ acc, H4 D = some (.lst acc) ∧ acc.length < sizeLine ∧ Nx (upd H4 D (.lst (acc ++ [y]))) else Nx H3) := by
  have s0 : ∀ {H : Hp} {o : HO}, Same H1 H → Same H1 (upd H D o) := fun {H o} s b u q => by
    rw [upd_ne (ne_of_none q hD)]
    exact s b u q
  refine lc_list (xs := L.map e) (fun i H => Same H1 H ∧ H D = some (.lst (((L.take i).filter p).map f))) ⟨s0 (Same.refl _), upd_same⟩ (fun i H _ q => q.1.seq hl) ?_ ?_
  · rintro i x H hx ⟨s, hH⟩
    obtain ⟨z, hz1, rfl⟩ := at_map hx
    refine step i z H _ _ hz1 s (fun hp H4 s4 => ?_) (fun hp H3 s3 => ?_)
    · refine ⟨_, s4 _ _ hH, ?_, s0 (s.trans s4), ?_⟩
      · rw [List.length_map]
        have h1 := List.length_filter_le p (L.take i)
        have h2 : (L.take i).length ≤ L.length := by rw [List.length_take]; omega
        exact Nat.lt_of_lt_of_le (show _ < 1000 by omega) (by decide)
      · rw [upd_same, take_snoc hz1, List.filter_append, List.map_append]
        simp [hp]
    · refine ⟨s.trans s3, ?_⟩
      rw [s3 _ _ hH, take_snoc hz1, List.filter_append, List.map_append]
      simp [hp]
  · rintro H ⟨s, hH⟩
    rw [List.length_map, List.take_length] at hH
    exact hd H s hH
/-- [f i z for i, z in enumerate(L) if p i z] -/
theorem lc_enumL {α : Type} {K : PySem.W.Frag} {a : Addr} {g : TG} {tt : TT} {te : TE} {vs : List Nat} {σ : St} {H1 : Hp} {D : Addr} {Qd : Hp → Prop} (L : List α) (e : α → V) (p : Nat → Bool) (f : Nat → V)
    (hD : H1 D = none) (hl : SqL K H1 a (L.map e)) (hz : L.length < 1000)
    (step : ∀ (i : Nat) (z : α) (H : Hp) (t : Addr) (Tr : V → Hp → Prop) (Fa : Hp → Prop), L[i]? = some z → Same H1 H → H t = some (.tup [.int (i : Nat), e z]) → (p i = true → ∀ H4, Same H H4 → Tr (f i) H4) → (p i = false → ∀ H3, Same H H3 → Fa H3) →
      g (.ref t) (wipe σ vs) H fun σ2 H2 => wipe σ2 vs = wipe σ vs ∧ tt σ2 H2 fun b H3 => if b = true then te σ2 H3 Tr else Fa H3)
    (hd : ∀ H, Same H1 H → H D = some (.lst (((List.range L.length).filter p).map f)) → Qd H) :
    ∃ W : Nat → Nat → Hp → Prop, (∃ m, W 0 m (upd H1 D (.lst []))) ∧ ∀ i m H, W i m H →
      ((Ite K a).stop i H ∧ Qd H) ∨ ((Ite K a).go i H ∧ ∃ Nx : Hp → Prop, (∀ H', Nx H' → ∃ m', m' < m ∧ W (i + 1) m' H') ∧ ∀ x H', (Ite K a).yld i H x H' → g x (wipe σ vs) H' fun σ2 H2 => wipe σ2 vs = wipe σ vs ∧ tt σ2 H2 fun b H3 =>
        if b = true then te σ2 H3 fun y H4 => ∃ acc, H4 D = some (.lst acc) ∧ acc.length < sizeLine ∧ Nx (upd H4 D (.lst (acc ++ [y]))) else Nx H3) := by
  have s0 : ∀ {H : Hp} {o : HO}, Same H1 H → Same H1 (upd H D o) := fun {H o} s b u q => by
    rw [upd_ne (ne_of_none q hD)]
    exact s b u q
  refine ⟨fun i m H => m = L.length - i ∧ i ≤ L.length ∧ Same H1 H ∧ H D = some (.lst (((List.range i).filter p).map f)), ⟨L.length, by simp, Nat.zero_le _, s0 (Same.refl _), upd_same⟩, ?_⟩
  rintro i m H ⟨rfl, hi, s, hH⟩
  have hq := s.seq hl
  by_cases lt : i < L.length
  · refine .inr ⟨⟨L.map e, e L[i], hq, by simp [lt]⟩, fun H' => Same H1 H' ∧ H' D = some (.lst (((List.range (i + 1)).filter p).map f)), fun H' q => ⟨L.length - (i + 1), by omega, rfl, lt, q.1, q.2⟩, fun x H' y => ?_⟩
    obtain ⟨t, v, rfl, ht, rfl, hv⟩ := y
    have hv1 := hv _ hq
    obtain ⟨z, hz1, rfl⟩ := at_map hv1
    have tD : D ≠ t := ne_of_none hH ht
    have st : Same H (upd H t (.tup [.int (i : Nat), e z])) := fun b u q => by rw [upd_ne (ne_of_none q ht)]; exact q
    refine step i z (upd H t (.tup [.int (i : Nat), e z])) t _ _ hz1 (s.trans st) upd_same (fun hp H4 s4 => ?_) (fun hp H3 s3 => ?_)
    · refine ⟨_, s4 _ _ (st _ _ hH), ?_, s0 ((s.trans st).trans s4), ?_⟩
      · rw [List.length_map]
        have h1 := List.length_filter_le p (List.range i)
        rw [List.length_range] at h1
        exact Nat.lt_of_lt_of_le (show _ < 1000 by omega) (by decide)
      · rw [upd_same, List.range_succ, List.filter_append, List.map_append]
        simp [hp]
    · refine ⟨(s.trans st).trans s3, ?_⟩
      rw [s3 _ _ (st _ _ hH), List.range_succ, List.filter_append, List.map_append]
      simp [hp]
  · have e1 : i = L.length := by omega
    subst e1
    exact .inl ⟨⟨L.map e, hq, by simp⟩, hd H s hH⟩
end L2
namespace M
open Kqv5
/-! ### lists by places -/
theorem fm_eq {α β : Type} (L : List α) (g : Nat → α → β) : ((List.range L.length).filterMap fun i => (L[i]?).map fun b => g i b) = L.mapIdx g := by
  have e : ((List.range L.length).filterMap fun i => (L[i]?).map fun b => g i b) = (List.range L.length).filterMap (fun i => (L.mapIdx g)[i]?) := by
    congr 1
    funext i
    rw [List.getElem?_mapIdx]
  have key : ∀ (M : List β), (List.range M.length).filterMap (fun i => M[i]?) = M := by
    intro M
    induction M with
    | nil => rfl
    | cons a r ih =>
      rw [List.length_cons, List.range_succ_eq_map, List.filterMap_cons]
      simp only [List.getElem?_cons_zero]
      rw [List.filterMap_map]
      have : ((fun i => (a :: r)[i]?) ∘ Nat.succ) = fun i => r[i]? := by funext i; simp
      rw [this, ih]
  rw [e]
  have hl : L.length = (L.mapIdx g).length := by simp
  rw [hl]
  exact key _
theorem mark_at (h : Hall) (l : List Nat) (f : Blade → Blade) (i : Nat) : (mark h l f)[i]? = (h.blades[i]?).map fun b => if l.contains i then f b else b := by
  unfold mark
  rw [fm_eq h.blades (fun i b => if l.contains i then f b else b), List.getElem?_mapIdx]
theorem mark_len (h : Hall) (l : List Nat) (f : Blade → Blade) : (mark h l f).length = h.blades.length := by
  unfold mark
  rw [fm_eq h.blades (fun i b => if l.contains i then f b else b), List.length_mapIdx]
theorem adds_at (h : Hall) (l : List Nat) (i : Nat) : (adds h l)[i]? = (h.blades[i]?).map fun b => if l.contains i then { b with added := b.added + (greatest (l.map (full h)) - full h i) / h.unit * h.unit } else b := by
  unfold adds
  rw [fm_eq h.blades (fun i b => if l.contains i then { b with added := b.added + (greatest (l.map (full h)) - full h i) / h.unit * h.unit } else b), List.getElem?_mapIdx]
theorem adds_len (h : Hall) (l : List Nat) : (adds h l).length = h.blades.length := by
  unfold adds
  rw [fm_eq h.blades (fun i b => if l.contains i then { b with added := b.added + (greatest (l.map (full h)) - full h i) / h.unit * h.unit } else b), List.length_mapIdx]
theorem matched_at (h : Hall) (l : List Nat) (i : Nat) : (matched h l).blades[i]? = (h.blades[i]?).map fun b => if l.contains i then { b with added := b.added + (greatest (l.map (full h)) - full h i) / h.unit * h.unit, set := slot h.sets + 1 } else b := by
  show ((List.range (adds h l).length).filterMap fun i => ((adds h l)[i]?).map fun x => if l.contains i then { x with set := slot h.sets + 1 } else x)[i]? = _
  rw [fm_eq (adds h l) (fun i x => if l.contains i then { x with set := slot h.sets + 1 } else x), List.getElem?_mapIdx, adds_at]
  cases h.blades[i]? with
  | none => rfl
  | some b =>
    simp only [Option.map_some]
    by_cases c : i ∈ l
    · simp [c]
    · simp [c]
theorem matched_len (h : Hall) (l : List Nat) : (matched h l).blades.length = h.blades.length := by
  show ((List.range (adds h l).length).filterMap fun i => ((adds h l)[i]?).map fun x => if l.contains i then { x with set := slot h.sets + 1 } else x).length = _
  rw [fm_eq (adds h l) (fun i x => if l.contains i then { x with set := slot h.sets + 1 } else x), List.length_mapIdx, adds_len]
theorem matched_sets (h : Hall) (l : List Nat) : (matched h l).sets = putIn h.sets l := rfl
/-! ### the first free number -/
theorem findIdx_spec {α : Type} (p : α → Bool) : ∀ (l : List α), (match l.findIdx? p with | some n => n < l.length ∧ (∃ x, l[n]? = some x ∧ p x = true) ∧ ∀ m x, m < n → l[m]? = some x → p x = false | none => ∀ (m : Nat) (x : α), l[m]? = some x → p x = false)
  | [] => by simp
  | a :: r => by
    have ih := findIdx_spec p r
    rw [List.findIdx?_cons]
    by_cases c : p a = true
    · simp [c]
    · have c' : p a = false := by simpa using c
      simp only [c', Bool.false_eq_true, if_false]
      cases q : r.findIdx? p with
      | none =>
        rw [q] at ih
        simp only [Option.map_none]
        intro m x hm
        cases m with
        | zero => simp at hm; subst hm; exact c'
        | succ m => exact ih m x (by simpa using hm)
      | some n =>
        rw [q] at ih
        obtain ⟨h1, ⟨x, h2, h3⟩, h4⟩ := ih
        simp only [Option.map_some]
        refine ⟨by simp; omega, ⟨x, by simpa using h2, h3⟩, fun m y hm hy => ?_⟩
        cases m with
        | zero => simp at hy; subst hy; exact c'
        | succ m => exact h4 m y (by omega) (by simpa using hy)
/-- below the slot every place is taken -/
theorem slot_below {α : Type} (l : List (Option α)) {m : Nat} (hm : m < slot l) : ∃ x, l[m]? = some (some x) := by
  unfold slot at hm
  have q := findIdx_spec (Option.isNone (α := α)) l
  cases e : l.findIdx? Option.isNone with
  | some n =>
    rw [e] at q hm
    simp at hm
    have hl : m < l.length := by omega
    have := q.2.2 m l[m] hm (by simp [hl])
    cases c : l[m] with
    | none => rw [c] at this; cases this
    | some x => exact ⟨x, by rw [List.getElem?_eq_getElem hl, c]⟩
  | none =>
    rw [e] at q hm
    simp at hm
    have := q m l[m] (by simp [hm])
    cases c : l[m] with
    | none => rw [c] at this; cases this
    | some x => exact ⟨x, by rw [List.getElem?_eq_getElem hm, c]⟩
theorem slot_le {α : Type} (l : List (Option α)) : slot l ≤ l.length := by
  unfold slot
  have q := findIdx_spec (Option.isNone (α := α)) l
  cases e : l.findIdx? Option.isNone with
  | some n => rw [e] at q; simp; omega
  | none => simp
/-- the slot itself is free -/
theorem slot_free {α : Type} (l : List (Option α)) (x : α) : l[slot l]? ≠ some (some x) := by
  unfold slot
  have q := findIdx_spec (Option.isNone (α := α)) l
  cases e : l.findIdx? Option.isNone with
  | some n =>
    rw [e] at q
    obtain ⟨y, h2, h3⟩ := q.2.1
    simp only [Option.getD_some]
    rw [h2]
    intro z
    cases z
    cases h3
  | none => simp
theorem putIn_at {α : Type} (l : List (Option α)) (x : α) (m : Nat) (t : α) : (putIn l x)[m]? = some (some t) ↔ (m = slot l ∧ t = x) ∨ (m ≠ slot l ∧ l[m]? = some (some t)) := by
  unfold putIn
  have hf := slot_free l
  have hle := slot_le l
  by_cases c : slot l < l.length
  · rw [if_pos c]
    by_cases e : m = slot l
    · subst e
      rw [List.getElem?_set_self c]
      constructor
      · intro z; cases z; exact .inl ⟨rfl, rfl⟩
      · rintro (⟨_, rfl⟩ | ⟨z, _⟩)
        · rfl
        · exact absurd rfl z
    · rw [List.getElem?_set_ne (Ne.symm e)]
      constructor
      · intro z; exact .inr ⟨e, z⟩
      · rintro (⟨z, _⟩ | ⟨_, z⟩)
        · exact absurd z e
        · exact z
  · rw [if_neg c]
    have e2 : slot l = l.length := by omega
    by_cases e : m = slot l
    · subst e
      rw [e2, List.getElem?_append_right (Nat.le_refl _)]
      simp
      exact eq_comm
    · by_cases lt : m < l.length
      · rw [List.getElem?_append_left lt]
        constructor
        · intro z; exact .inr ⟨e, z⟩
        · rintro (⟨z, _⟩ | ⟨_, z⟩)
          · exact absurd z e
          · exact z
      · rw [List.getElem?_append_right (by omega)]
        have : m - l.length ≠ 0 := by omega
        constructor
        · intro z
          have : ([some x] : List (Option α))[m - l.length]? = none := by
            apply List.getElem?_eq_none
            simp
            omega
          rw [this] at z
          cases z
        · rintro (⟨z, _⟩ | ⟨_, z⟩)
          · exact absurd z e
          · rw [List.getElem?_eq_none (by omega)] at z
            cases z
theorem getD_iff {α : Type} (l : List (Option α)) (m : Nat) (t : α) : l.getD m none = some t ↔ l[m]? = some (some t) := by
  rw [List.getD_eq_getElem?_getD]
  cases l[m]? with
  | none => simp
  | some x => simp
theorem getD_none_iff {α : Type} (l : List (Option α)) (m : Nat) : l.getD m none = none ↔ ∀ t, l[m]? ≠ some (some t) := by
  constructor
  · intro h t e
    rw [(getD_iff l m t).mpr e] at h
    cases h
  · intro h
    cases e : l.getD m none with
    | none => rfl
    | some t => exact absurd ((getD_iff l m t).mp e) (h t)
end M
namespace M
open Kqv5
structure WfB (b : Blade) : Prop where
  kind : b.kind ≤ 3
  mom : 1 ≤ b.moment ∧ b.moment ≤ 100000
  pull : b.moment + b.added ≤ 110000
  gone : b.gone = true → b.set = 0
structure Wf (h : Hall) : Prop where
  most : h.most ≤ 10000
  unit : 1 ≤ h.unit ∧ h.unit ≤ 1000
  len : h.blades.length ≤ 20
  bl : ∀ (i : Nat) (b : Blade), h.blades[i]? = some b → WfB b
  st : ∀ (s : Nat) (t : List Nat), h.sets[s]? = some (some t) → (∃ i j k, t = [i, j, k] ∧ i ≠ j ∧ j ≠ k ∧ i ≠ k ∧ kind h i = kind h j ∧ kind h j = kind h k) ∧ ∀ x ∈ t, ∃ b, h.blades[x]? = some b ∧ b.set = s + 1
  ts : ∀ (i : Nat) (b : Blade), h.blades[i]? = some b → b.set ≠ 0 → ∃ t, h.sets[b.set - 1]? = some (some t) ∧ i ∈ t
theorem full_of {h : Hall} {i : Nat} {b : Blade} (e : h.blades[i]? = some b) : full h i = b.moment + b.added := by
  unfold full; rw [e]; rfl
theorem kind_of {h : Hall} {i : Nat} {b : Blade} (e : h.blades[i]? = some b) : kind h i = b.kind := by
  unfold kind; rw [e]; rfl
theorem free_iff {h : Hall} {i : Nat} : isFree h i = true ↔ ∃ b, h.blades[i]? = some b ∧ b.set = 0 ∧ b.gone = false := by
  unfold isFree
  cases e : h.blades[i]? with
  | none => simp
  | some b => simp
theorem free_of {h : Hall} {i : Nat} {b : Blade} (e : h.blades[i]? = some b) : isFree h i = (b.set == 0 && !b.gone) := by
  unfold isFree; rw [e]; rfl
theorem Wf.full_le {h : Hall} (w : Wf h) (i : Nat) : full h i ≤ 110000 := by
  cases e : h.blades[i]? with
  | none => unfold full; rw [e]; simp
  | some b => rw [full_of e]; exact (w.bl i b e).pull
theorem foldl_max_ge : ∀ (l : List Nat) (a : Nat), a ≤ l.foldl max a
  | [], a => Nat.le_refl _
  | x :: l, a => Nat.le_trans (Nat.le_max_left a x) (foldl_max_ge l (max a x))
theorem foldl_max_mem : ∀ (l : List Nat) (a x : Nat), x ∈ l → x ≤ l.foldl max a
  | y :: l, a, x, h => by
    rcases List.mem_cons.mp h with rfl | h
    · exact Nat.le_trans (Nat.le_max_right a x) (foldl_max_ge l (max a x))
    · exact foldl_max_mem l (max a y) x h
theorem foldl_max_le : ∀ (l : List Nat) (a n : Nat), a ≤ n → (∀ x ∈ l, x ≤ n) → l.foldl max a ≤ n
  | [], a, n, h, _ => h
  | y :: l, a, n, h, k => foldl_max_le l (max a y) n (Nat.max_le.mpr ⟨h, k y List.mem_cons_self⟩) fun x hx => k x (List.mem_cons_of_mem _ hx)
theorem greatest_ge {l : List Nat} {x : Nat} (h : x ∈ l) : x ≤ greatest l := foldl_max_mem l 0 x h
theorem greatest_le {l : List Nat} {n : Nat} (h : ∀ x ∈ l, x ≤ n) : greatest l ≤ n := foldl_max_le l 0 n (Nat.zero_le _) h
/-- the greatest, by its two facts -/
theorem greatest_eq {l : List Nat} {m : Nat} (h1 : m ∈ l) (h2 : ∀ x ∈ l, x ≤ m) : greatest l = m := Nat.le_antisymm (greatest_le h2) (greatest_ge h1)
/-- blades changed one by one, kinds and sets as they were -/
theorem Wf.upd {h h' : Hall} (w : Wf h) (f : Nat → Blade → Blade) (e1 : h'.most = h.most) (e2 : h'.unit = h.unit) (e3 : h'.sets = h.sets) (el : h'.blades.length = h.blades.length)
    (eb : ∀ i, h'.blades[i]? = (h.blades[i]?).map (f i)) (hk : ∀ i b, h.blades[i]? = some b → (f i b).kind = b.kind ∧ (f i b).set = b.set ∧ WfB (f i b)) : Wf h' := by
  have kd : ∀ i, kind h' i = kind h i := fun i => by
    unfold kind
    rw [eb]
    cases q : h.blades[i]? with
    | none => rfl
    | some b => exact (hk i b q).1
  refine ⟨by rw [e1]; exact w.most, by rw [e2]; exact w.unit, by rw [el]; exact w.len, fun i b q => ?_, fun s t q => ?_, fun i b q hb => ?_⟩
  · rw [eb] at q
    obtain ⟨b0, q0, rfl⟩ := Option.map_eq_some_iff.mp q
    exact (hk i b0 q0).2.2
  · rw [e3] at q
    obtain ⟨⟨i, j, k, r1, r2, r3, r4, r5, r6⟩, m⟩ := w.st s t q
    refine ⟨⟨i, j, k, r1, r2, r3, r4, by rw [kd, kd]; exact r5, by rw [kd, kd]; exact r6⟩, fun x hx => ?_⟩
    obtain ⟨b, q1, q2⟩ := m x hx
    exact ⟨f x b, by rw [eb, q1]; rfl, by rw [(hk x b q1).2.1]; exact q2⟩
  · rw [eb] at q
    obtain ⟨b0, q0, rfl⟩ := Option.map_eq_some_iff.mp q
    rw [(hk i b0 q0).2.1] at hb ⊢
    rw [e3]
    exact w.ts i b0 q0 hb
theorem set_at {α : Type} (l : List α) (i : Nat) (b b' : α) (e : l[i]? = some b) (j : Nat) : (l.set i b')[j]? = (l[j]?).map fun c => if j = i then b' else c := by
  have hi : i < l.length := (List.getElem?_eq_some_iff.mp e).1
  by_cases c : j = i
  · subst c
    rw [List.getElem?_set_self hi, e]
    simp
  · rw [List.getElem?_set_ne (Ne.symm c)]
    cases l[j]? with
    | none => rfl
    | some x => simp [c]
/-- one blade changed, its kind and its set as they were -/
theorem Wf.one {h : Hall} (w : Wf h) {i : Nat} {b b' : Blade} (e : h.blades[i]? = some b) (hk : b'.kind = b.kind) (hs : b'.set = b.set) (hw : WfB b') : Wf { h with blades := h.blades.set i b' } := by
  refine w.upd (fun j c => if j = i then b' else c) rfl rfl rfl (by simp) (fun j => set_at _ _ b _ e j) fun j c q => ?_
  by_cases z : j = i
  · subst z
    rw [q] at e
    cases e
    simp only [if_pos]
    exact ⟨hk, hs, hw⟩
  · simp only [if_neg z]
    exact ⟨trivial, trivial, w.bl j c q⟩
theorem Wf.start {m u : Nat} (h1 : m ≤ 10000) (h2 : 1 ≤ u) (h3 : u ≤ 1000) : Wf ⟨m, u, [], []⟩ :=
  ⟨h1, ⟨h2, h3⟩, by simp, fun i b q => by simp at q, fun s t q => by simp at q, fun i b q => by simp at q⟩
theorem snoc_at {α : Type} (l : List α) (x : α) (i : Nat) (b : α) : (l ++ [x])[i]? = some b ↔ l[i]? = some b ∨ (i = l.length ∧ b = x) := by
  by_cases c : i < l.length
  · rw [List.getElem?_append_left c]
    constructor
    · exact .inl
    · rintro (z | ⟨z, _⟩)
      · exact z
      · omega
  · by_cases e : i = l.length
    · subst e
      rw [List.getElem?_append_right (Nat.le_refl _)]
      simp
      exact eq_comm
    · rw [List.getElem?_eq_none (by simp; omega), List.getElem?_eq_none (by omega)]
      simp [e]
theorem Wf.blade {h : Hall} (w : Wf h) {k m : Nat} (hk : k ≤ 3) (hm : 1 ≤ m) (hm2 : m ≤ 100000) (hl : h.blades.length < 20) : Wf { h with blades := h.blades ++ [⟨k, m, 0, 0, false⟩] } := by
  have kd : ∀ i b, h.blades[i]? = some b → kind { h with blades := h.blades ++ [⟨k, m, 0, 0, false⟩] } i = kind h i := fun i b q => by
    rw [kind_of q, kind_of ((snoc_at _ _ i b).mpr (.inl q))]
  refine ⟨w.most, w.unit, by simp; omega, fun i b q => ?_, fun s t q => ?_, fun i b q hb => ?_⟩
  · rcases (snoc_at _ _ i b).mp q with z | ⟨_, rfl⟩
    · exact w.bl i b z
    · exact ⟨hk, ⟨hm, hm2⟩, by simp; omega, fun z => by cases z⟩
  · obtain ⟨⟨i, j, k', r1, r2, r3, r4, r5, r6⟩, mm⟩ := w.st s t q
    obtain ⟨bi, qi, _⟩ := mm i (by rw [r1]; simp)
    obtain ⟨bj, qj, _⟩ := mm j (by rw [r1]; simp)
    obtain ⟨bk, qk, _⟩ := mm k' (by rw [r1]; simp)
    refine ⟨⟨i, j, k', r1, r2, r3, r4, by rw [kd i bi qi, kd j bj qj]; exact r5, by rw [kd j bj qj, kd k' bk qk]; exact r6⟩, fun x hx => ?_⟩
    obtain ⟨b, q1, q2⟩ := mm x hx
    exact ⟨b, (snoc_at _ _ x b).mpr (.inl q1), q2⟩
  · rcases (snoc_at _ _ i b).mp q with z | ⟨_, rfl⟩
    · exact w.ts i b z hb
    · exact absurd rfl hb
/-- a set of three free blades of one kind -/
theorem Wf.matched {h : Hall} (w : Wf h) {i j k : Nat} (hij : i ≠ j) (hjk : j ≠ k) (hik : i ≠ k) (k1 : kind h i = kind h j) (k2 : kind h j = kind h k) (fr : ∀ x ∈ [i, j, k], isFree h x = true) : Wf (matched h [i, j, k]) := by
  have kd : ∀ x, kind (Kqv5.matched h [i, j, k]) x = kind h x := fun x => by
    unfold kind
    rw [matched_at]
    cases h.blades[x]? with
    | none => rfl
    | some b => simp only [Option.map_some]; split <;> rfl
  have at_ : ∀ x b, (Kqv5.matched h [i, j, k]).blades[x]? = some b → ∃ b0, h.blades[x]? = some b0 ∧
      ((x ∈ [i, j, k] ∧ b = { b0 with added := b0.added + (greatest ([i, j, k].map (full h)) - full h x) / h.unit * h.unit, set := slot h.sets + 1 }) ∨ (x ∉ [i, j, k] ∧ b = b0)) := fun x b q => by
    rw [matched_at] at q
    obtain ⟨b0, q0, e⟩ := Option.map_eq_some_iff.mp q
    refine ⟨b0, q0, ?_⟩
    by_cases c : x ∈ [i, j, k]
    · rw [if_pos (by simpa using c)] at e
      exact .inl ⟨c, e.symm⟩
    · rw [if_neg (by simpa using c)] at e
      exact .inr ⟨c, e.symm⟩
  refine ⟨w.most, w.unit, by rw [matched_len]; exact w.len, fun x b q => ?_, fun s t q => ?_, fun x b q hb => ?_⟩
  · obtain ⟨b0, q0, ⟨c, rfl⟩ | ⟨c, rfl⟩⟩ := at_ x b q
    · obtain ⟨b1, q1, s1, g1⟩ := free_iff.mp (fr x c)
      rw [q0] at q1
      cases q1
      have wb := w.bl x b0 q0
      refine ⟨wb.kind, wb.mom, ?_, fun z => ?_⟩
      · show b0.moment + (b0.added + (greatest ([i, j, k].map (full h)) - full h x) / h.unit * h.unit) ≤ 110000
        have e1 := full_of q0
        have e2 : full h x ≤ greatest ([i, j, k].map (full h)) := greatest_ge (List.mem_map_of_mem c)
        have e3 : greatest ([i, j, k].map (full h)) ≤ 110000 := greatest_le fun y hy => by
          obtain ⟨z, _, rfl⟩ := List.mem_map.mp hy
          exact w.full_le z
        have e4 := Nat.div_mul_le_self (greatest ([i, j, k].map (full h)) - full h x) h.unit
        omega
      · exact absurd (show b0.gone = true from z) (by rw [g1]; decide)
    · exact w.bl x b q0
  · rw [matched_sets] at q
    rcases (putIn_at _ _ _ _).mp q with ⟨rfl, rfl⟩ | ⟨hs, q⟩
    · refine ⟨⟨i, j, k, rfl, hij, hjk, hik, by rw [kd, kd]; exact k1, by rw [kd, kd]; exact k2⟩, fun x hx => ?_⟩
      obtain ⟨b, q1, _⟩ := free_iff.mp (fr x hx)
      exact ⟨_, by rw [matched_at, q1, Option.map_some, if_pos (by simpa using hx)], rfl⟩
    · obtain ⟨⟨i', j', k', r1, r2, r3, r4, r5, r6⟩, mm⟩ := w.st s t q
      refine ⟨⟨i', j', k', r1, r2, r3, r4, by rw [kd, kd]; exact r5, by rw [kd, kd]; exact r6⟩, fun x hx => ?_⟩
      obtain ⟨b, q1, q2⟩ := mm x hx
      have nx : x ∉ [i, j, k] := fun c => by
        obtain ⟨b1, q3, s1, _⟩ := free_iff.mp (fr x c)
        rw [q1] at q3
        cases q3
        omega
      exact ⟨b, by rw [matched_at, q1, Option.map_some, if_neg (by simpa using nx)], q2⟩
  · obtain ⟨b0, q0, ⟨c, rfl⟩ | ⟨c, rfl⟩⟩ := at_ x b q
    · exact ⟨[i, j, k], by rw [matched_sets]; exact (putIn_at _ _ _ _).mpr (.inl ⟨rfl, rfl⟩), c⟩
    · obtain ⟨t, q1, q2⟩ := w.ts x b q0 hb
      refine ⟨t, ?_, q2⟩
      rw [matched_sets]
      refine (putIn_at _ _ _ _).mpr (.inr ⟨fun z => ?_, q1⟩)
      rw [z] at q1
      exact slot_free _ _ q1
theorem set_none_at {α : Type} (l : List (Option α)) (t m : Nat) (x : α) : (l.set t none)[m]? = some (some x) ↔ m ≠ t ∧ l[m]? = some (some x) := by
  by_cases c : m = t
  · subst c
    by_cases hl : m < l.length
    · rw [List.getElem?_set_self hl]; simp
    · rw [List.getElem?_eq_none (by simp; omega)]; simp
  · rw [List.getElem?_set_ne (Ne.symm c)]; simp [c]
theorem set_some_at {α : Type} (l : List (Option α)) (t m : Nat) (y x : α) (ht : t < l.length) : (l.set t (some y))[m]? = some (some x) ↔ (m = t ∧ x = y) ∨ (m ≠ t ∧ l[m]? = some (some x)) := by
  by_cases c : m = t
  · subst c
    rw [List.getElem?_set_self ht]; simp; exact eq_comm
  · rw [List.getElem?_set_ne (Ne.symm c)]; simp [c]
/-- a set that is no set any more: f frees its blades -/
theorem Wf.parted {h : Hall} (w : Wf h) {t : Nat} {l : List Nat} (ht : h.sets[t]? = some (some l)) (f : Blade → Blade) (hf : ∀ b, (f b).kind = b.kind ∧ (f b).moment = b.moment ∧ (f b).added = b.added ∧ (f b).set = 0) :
    Wf { h with blades := mark h l f, sets := h.sets.set t none } := by
  have kd : ∀ x, kind { h with blades := mark h l f, sets := h.sets.set t none } x = kind h x := fun x => by
    unfold kind
    show (((mark h l f)[x]?).map fun b => b.kind).getD 0 = _
    rw [mark_at]
    cases h.blades[x]? with
    | none => rfl
    | some b => simp only [Option.map_some]; split
                · simp [(hf b).1]
                · rfl
  obtain ⟨_, ml⟩ := w.st t l ht
  refine ⟨w.most, w.unit, by show (mark h l f).length ≤ 20; rw [mark_len]; exact w.len, fun x b q => ?_, fun s t' q => ?_, fun x b q hb => ?_⟩
  · rw [show (mark h l f)[x]? = _ from mark_at h l f x] at q
    obtain ⟨b0, q0, e⟩ := Option.map_eq_some_iff.mp q
    have wb := w.bl x b0 q0
    split at e
    · subst e
      obtain ⟨h1, h2, h3, h4⟩ := hf b0
      exact ⟨by rw [h1]; exact wb.kind, by rw [h2]; exact wb.mom, by rw [h2, h3]; exact wb.pull, fun _ => h4⟩
    · subst e; exact wb
  · have q : (h.sets.set t none)[s]? = some (some t') := q
    obtain ⟨ne, q⟩ := (set_none_at _ _ _ _).mp q
    obtain ⟨⟨i', j', k', r1, r2, r3, r4, r5, r6⟩, mm⟩ := w.st s t' q
    refine ⟨⟨i', j', k', r1, r2, r3, r4, by rw [kd, kd]; exact r5, by rw [kd, kd]; exact r6⟩, fun x hx => ?_⟩
    obtain ⟨b, q1, q2⟩ := mm x hx
    have nx : x ∉ l := fun c => by
      obtain ⟨b1, q3, s1⟩ := ml x c
      rw [q1] at q3
      cases q3
      omega
    exact ⟨b, by rw [show (mark h l f)[x]? = _ from mark_at h l f x, q1, Option.map_some, if_neg (by simpa using nx)], q2⟩
  · rw [show (mark h l f)[x]? = _ from mark_at h l f x] at q
    obtain ⟨b0, q0, e⟩ := Option.map_eq_some_iff.mp q
    split at e
    · subst e; exact absurd (hf b0).2.2.2 hb
    · rename_i c
      subst e
      obtain ⟨t', q1, q2⟩ := w.ts x b0 q0 hb
      refine ⟨t', (set_none_at _ _ _ _).mpr ⟨fun z => ?_, q1⟩, q2⟩
      rw [z, ht] at q1
      cases q1
      exact c (by simpa using q2)
end M
namespace M
open Kqv5
/-! ### exchange -/
/-- what exchange makes, as the specification writes it -/
def exchanged (h : Hall) (t i x : Nat) (l : List Nat) : Hall :=
  let n := l.map fun j => if j = i then x else j
  let g := { h with blades := mark h [i] fun b => { b with set := 0 }, sets := h.sets.set t (some n) }
  { g with blades := (List.range h.blades.length).filterMap fun j => (adds g n)[j]?.map fun b => if j = x then { b with set := t + 1 } else b }
theorem full_mark (h : Hall) (l : List Nat) (ss : List (Option (List Nat))) (x : Nat) : full { h with blades := mark h l fun b => { b with set := 0 }, sets := ss } x = full h x := by
  unfold full
  show (((mark h l fun b => { b with set := 0 })[x]?).map fun b => b.moment + b.added).getD 0 = _
  rw [mark_at]
  cases h.blades[x]? with
  | none => rfl
  | some b => simp only [Option.map_some]; split <;> rfl
theorem exchanged_at (h : Hall) (t i x : Nat) (l : List Nat) (j : Nat) : (exchanged h t i x l).blades[j]? = (h.blades[j]?).map fun b =>
    let b1 : Blade := if j = i then { b with set := 0 } else b
    let b2 : Blade := if j ∈ (l.map fun j => if j = i then x else j) then { b1 with added := b.added + (greatest ((l.map fun j => if j = i then x else j).map (full h)) - full h j) / h.unit * h.unit } else b1
    if j = x then { b2 with set := t + 1 } else b2 := by
  show ((List.range h.blades.length).filterMap fun j => (adds { h with blades := mark h [i] fun b => { b with set := 0 }, sets := h.sets.set t (some (l.map fun j => if j = i then x else j)) } (l.map fun j => if j = i then x else j))[j]?.map fun b => if j = x then { b with set := t + 1 } else b)[j]? = _
  have e1 : h.blades.length = (adds { h with blades := mark h [i] fun b => { b with set := 0 }, sets := h.sets.set t (some (l.map fun j => if j = i then x else j)) } (l.map fun j => if j = i then x else j)).length := by
    rw [adds_len]
    exact (mark_len _ _ _).symm
  rw [e1, fm_eq _ (fun j (b : Blade) => if j = x then { b with set := t + 1 } else b), List.getElem?_mapIdx, adds_at]
  have e2 : (full { h with blades := mark h [i] fun b => { b with set := 0 }, sets := h.sets.set t (some (l.map fun j => if j = i then x else j)) }) = full h := funext fun y => full_mark _ _ _ _
  rw [e2]
  show Option.map _ (Option.map _ ((mark h [i] fun b => { b with set := 0 })[j]?)) = _
  rw [mark_at]
  cases h.blades[j]? with
  | none => rfl
  | some b =>
    simp only [Option.map_some, List.contains_iff_mem, List.mem_singleton]
    by_cases c : j = i
    · simp [c]
    · simp [c]
theorem exchanged_len (h : Hall) (t i x : Nat) (l : List Nat) : (exchanged h t i x l).blades.length = h.blades.length := by
  show ((List.range h.blades.length).filterMap fun j => (adds { h with blades := mark h [i] fun b => { b with set := 0 }, sets := h.sets.set t (some (l.map fun j => if j = i then x else j)) } (l.map fun j => if j = i then x else j))[j]?.map fun b => if j = x then { b with set := t + 1 } else b).length = _
  have e1 : h.blades.length = (adds { h with blades := mark h [i] fun b => { b with set := 0 }, sets := h.sets.set t (some (l.map fun j => if j = i then x else j)) } (l.map fun j => if j = i then x else j)).length := by
    rw [adds_len]
    exact (mark_len _ _ _).symm
  rw [e1, fm_eq _ (fun j (b : Blade) => if j = x then { b with set := t + 1 } else b), List.length_mapIdx]
theorem Wf.exchanged {h : Hall} (w : Wf h) {t i x : Nat} {l : List Nat} (ht : h.sets[t]? = some (some l)) (hi : i ∈ l) (hx : isFree h x = true) (hk : kind h x = kind h i) : Wf (M.exchanged h t i x l) := by
  obtain ⟨⟨a, b, c, rl, n1, n2, n3, k1, k2⟩, ml⟩ := w.st t l ht
  obtain ⟨bx, qx, sx, gx⟩ := free_iff.mp hx
  have htl : t < h.sets.length := (List.getElem?_eq_some_iff.mp ht).1
  have xl : x ∉ l := fun z => by
    obtain ⟨b', q', s'⟩ := ml x z
    rw [qx] at q'; cases q'; omega
  have xi : x ≠ i := fun z => xl (by rw [z]; exact hi)
  -- who is in the new three
  have mem : ∀ j, j ∈ (l.map fun j => if j = i then x else j) ↔ j = x ∨ (j ∈ l ∧ j ≠ i) := fun j => by
    rw [List.mem_map]
    constructor
    · rintro ⟨y, hy, e⟩
      split at e
      · exact .inl e.symm
      · rename_i z; subst e; exact .inr ⟨hy, z⟩
    · rintro (rfl | ⟨h1, h2⟩)
      · exact ⟨i, hi, if_pos rfl⟩
      · exact ⟨j, h1, if_neg h2⟩
  have inj : ∀ u v, u ∈ l → v ∈ l → (if u = i then x else u) = (if v = i then x else v) → u = v := by
    intro u v hu hv z
    by_cases c1 : u = i
    · by_cases c2 : v = i
      · rw [c1, c2]
      · rw [if_pos c1, if_neg c2] at z; exact absurd (by rw [z]; exact hv) xl
    · by_cases c2 : v = i
      · rw [if_neg c1, if_pos c2] at z; exact absurd (by rw [← z]; exact hu) xl
      · rw [if_neg c1, if_neg c2] at z; exact z
  have kd : ∀ y, kind (M.exchanged h t i x l) y = kind h y := fun y => by
    unfold kind
    rw [exchanged_at]
    cases h.blades[y]? with
    | none => rfl
    | some b =>
      simp only [Option.map_some, Option.getD_some]
      split <;> split <;> split <;> rfl
  refine ⟨w.most, w.unit, by rw [exchanged_len]; exact w.len, fun j b' q => ?_, fun s t' q => ?_, fun j b' q hb => ?_⟩
  · rw [exchanged_at] at q
    obtain ⟨b0, q0, e⟩ := Option.map_eq_some_iff.mp q
    have wb := w.bl j b0 q0
    have e1 := full_of q0
    have key : ∀ d : Nat, d = b0.added ∨ d = b0.added + (greatest ((l.map fun j => if j = i then x else j).map (full h)) - full h j) / h.unit * h.unit ∧ j ∈ (l.map fun j => if j = i then x else j) → b0.moment + d ≤ 110000 := fun d hd => by
      rcases hd with rfl | ⟨rfl, hm⟩
      · exact wb.pull
      · have e2 : full h j ≤ greatest ((l.map fun j => if j = i then x else j).map (full h)) := greatest_ge (List.mem_map_of_mem hm)
        have e3 : greatest ((l.map fun j => if j = i then x else j).map (full h)) ≤ 110000 := greatest_le fun y hy => by
          obtain ⟨z, _, rfl⟩ := List.mem_map.mp hy
          exact w.full_le z
        have e4 := Nat.div_mul_le_self (greatest ((l.map fun j => if j = i then x else j).map (full h)) - full h j) h.unit
        omega
    have gone : j = x → b0.gone = false := fun z => by subst z; rw [qx] at q0; cases q0; exact gx
    dsimp only at e
    by_cases c1 : j = x
    · rw [if_pos c1] at e
      have c3 : ¬ j = i := fun z => xi (c1.symm.trans z)
      rw [if_pos ((mem j).mpr (.inl c1)), if_neg c3] at e
      subst e
      exact ⟨wb.kind, wb.mom, key _ (.inr ⟨rfl, (mem j).mpr (.inl c1)⟩), fun z => absurd (show b0.gone = true from z) (by rw [gone c1]; decide)⟩
    · rw [if_neg c1] at e
      by_cases c2 : j ∈ (l.map fun j => if j = i then x else j)
      · rw [if_pos c2] at e
        have c3 : ¬ j = i := by
          rcases (mem j).mp c2 with z | z
          · exact absurd z c1
          · exact z.2
        rw [if_neg c3] at e
        subst e
        exact ⟨wb.kind, wb.mom, key _ (.inr ⟨rfl, c2⟩), wb.gone⟩
      · rw [if_neg c2] at e
        by_cases c3 : j = i
        · rw [if_pos c3] at e
          subst e
          exact ⟨wb.kind, wb.mom, wb.pull, fun _ => rfl⟩
        · rw [if_neg c3] at e
          subst e
          exact wb
  · have q : (h.sets.set t (some (l.map fun j => if j = i then x else j)))[s]? = some (some t') := q
    rcases (set_some_at _ _ _ _ _ htl).mp q with ⟨rfl, rfl⟩ | ⟨ne, q⟩
    · refine ⟨?_, fun y hy => ?_⟩
      · have kx : ∀ y ∈ l, kind h y = kind h i := fun y hy => by
          subst rl
          simp at hy hi
          rcases hy with rfl | rfl | rfl <;> rcases hi with rfl | rfl | rfl <;> simp [k1, k2]
        have ka : ∀ y ∈ l, kind h (if y = i then x else y) = kind h i := fun y hy => by
          split
          · exact hk
          · exact kx y hy
        subst rl
        refine ⟨_, _, _, rfl, ?_, ?_, ?_, ?_, ?_⟩
        · exact fun z => n1 (inj a b (by simp) (by simp) z)
        · exact fun z => n2 (inj b c (by simp) (by simp) z)
        · exact fun z => n3 (inj a c (by simp) (by simp) z)
        · rw [kd, kd, ka a (by simp), ka b (by simp)]
        · rw [kd, kd, ka b (by simp), ka c (by simp)]
      · rcases (mem y).mp hy with rfl | ⟨h1, h2⟩
        · exact ⟨_, by rw [exchanged_at, qx]; rfl, by simp⟩
        · obtain ⟨b', q', s'⟩ := ml y h1
          have yx : ¬ y = x := fun z => xl (by rw [← z]; exact h1)
          exact ⟨_, by rw [exchanged_at, q']; rfl, by simp only [if_neg yx, if_neg h2, if_pos hy]; exact s'⟩
    · obtain ⟨⟨i', j', k', r1, r2, r3, r4, r5, r6⟩, mm⟩ := w.st s t' q
      refine ⟨⟨i', j', k', r1, r2, r3, r4, by rw [kd, kd]; exact r5, by rw [kd, kd]; exact r6⟩, fun y hy => ?_⟩
      obtain ⟨b', q1, q2⟩ := mm y hy
      have yl : y ∉ l := fun z => by
        obtain ⟨b2, q3, s3⟩ := ml y z
        rw [q1] at q3; cases q3; omega
      have yi : ¬ y = i := fun z => yl (by rw [z]; exact hi)
      have yx : ¬ y = x := fun z => by rw [z, qx] at q1; cases q1; omega
      have yn : y ∉ (l.map fun j => if j = i then x else j) := fun z => by
        rcases (mem y).mp z with z | z
        · exact yx z
        · exact yl z.1
      exact ⟨b', by rw [exchanged_at, q1]; simp only [Option.map_some, if_neg yx, if_neg yn, if_neg yi], q2⟩
  · rw [exchanged_at] at q
    obtain ⟨b0, q0, e⟩ := Option.map_eq_some_iff.mp q
    dsimp only at e
    show ∃ t', (h.sets.set t (some (l.map fun j => if j = i then x else j)))[b'.set - 1]? = some (some t') ∧ j ∈ t'
    by_cases c1 : j = x
    · rw [if_pos c1] at e
      have e9 : b'.set = t + 1 := by rw [← e]
      exact ⟨_, (set_some_at _ _ _ _ _ htl).mpr (.inl ⟨by rw [e9]; rfl, rfl⟩), (mem j).mpr (.inl c1)⟩
    · rw [if_neg c1] at e
      by_cases c3 : j = i
      · have c2 : j ∉ (l.map fun j => if j = i then x else j) := fun z => by
          rcases (mem j).mp z with z | z
          · exact c1 z
          · exact z.2 c3
        rw [if_neg c2, if_pos c3] at e
        subst e
        exact absurd rfl hb
      · have e9 : b'.set = b0.set := by
          rw [← e]
          split
          · first | rfl | rw [if_neg c3]
          · first | rfl | rw [if_neg c3]
        rw [e9] at hb ⊢
        obtain ⟨t', q1, q2⟩ := w.ts j b0 q0 hb
        by_cases ct : b0.set - 1 = t
        · rw [ct, ht] at q1
          cases q1
          exact ⟨_, (set_some_at _ _ _ _ _ htl).mpr (.inl ⟨ct, rfl⟩), (mem j).mpr (.inr ⟨q2, c3⟩)⟩
        · exact ⟨t', (set_some_at _ _ _ _ _ htl).mpr (.inr ⟨ct, q1⟩), q2⟩
/-! ### the plan -/
theorem insertBy_perm (h : Hall) (i : Nat) : ∀ l : List Nat, (insertBy h i l).Perm (i :: l)
  | [] => .refl _
  | j :: l => by
    unfold insertBy
    split
    · exact .refl _
    · exact ((insertBy_perm h i l).cons j).trans (.swap i j l)
theorem sorted_perm (h : Hall) : ∀ l : List Nat, (sorted h l).Perm l
  | [] => .refl _
  | i :: l => by
    show (insertBy h i (sorted h l)).Perm _
    exact (insertBy_perm h i _).trans ((sorted_perm h l).cons i)
theorem free_nodup (h : Hall) (k : Nat) : (free h k).Nodup := List.nodup_range.sublist List.filter_sublist
theorem free_mem {h : Hall} {k i : Nat} : i ∈ free h k ↔ isFree h i = true ∧ kind h i = k := by
  unfold free
  rw [List.mem_filter, List.mem_range, Bool.and_eq_true, beq_iff_eq]
  constructor
  · exact fun z => z.2
  · intro z
    obtain ⟨b, q, _⟩ := free_iff.mp z.1
    exact ⟨(List.getElem?_eq_some_iff.mp q).1, z⟩
theorem free_len (h : Hall) (k : Nat) : (free h k).length ≤ h.blades.length := by
  unfold free
  exact Nat.le_trans (List.length_filter_le _ _) (by simp)
theorem threes_all : ∀ (n : Nat) (l : List Nat), 3 * n ≤ l.length → (threes n l).length = n ∧ (threes n l).flatten = l.take (3 * n) ∧ ∀ t ∈ threes n l, t.length = 3
  | 0, l, _ => by simp [threes]
  | n + 1, l, h => by
    obtain ⟨e1, e2, e3⟩ := threes_all n (l.drop 3) (by simp; omega)
    refine ⟨by simp [threes, e1], ?_, fun t ht => ?_⟩
    · show (l.take 3 :: threes n (l.drop 3)).flatten = _
      rw [List.flatten_cons, e2]
      have : 3 * (n + 1) = 3 + 3 * n := by omega
      rw [this, List.take_add]
    · rcases List.mem_cons.mp (show t ∈ l.take 3 :: threes n (l.drop 3) from ht) with rfl | z
      · simp; omega
      · exact e3 t z
theorem plan_len (h : Hall) (k : Nat) : (plan h k).length = (free h k).length / 3 := by
  unfold plan
  refine (threes_all _ _ ?_).1
  rw [(sorted_perm h _).length_eq]
  omega
theorem plan_three {h : Hall} {k : Nat} {t : List Nat} (ht : t ∈ plan h k) : t.length = 3 := by
  unfold plan at ht
  refine (threes_all _ _ ?_).2.2 t ht
  rw [(sorted_perm h _).length_eq]
  omega
theorem plan_flat (h : Hall) (k : Nat) : (plan h k).flatten = (sorted h (free h k)).take (3 * ((free h k).length / 3)) := by
  unfold plan
  refine (threes_all _ _ ?_).2.1
  rw [(sorted_perm h _).length_eq]
  omega
theorem plan_nodup (h : Hall) (k : Nat) : (plan h k).flatten.Nodup := by
  rw [plan_flat]
  exact ((sorted_perm h _).nodup_iff.mpr (free_nodup h k)).sublist (List.take_sublist _ _)
theorem plan_mem {h : Hall} {k x : Nat} (hx : x ∈ (plan h k).flatten) : isFree h x = true ∧ kind h x = k := by
  rw [plan_flat] at hx
  exact free_mem.mp ((sorted_perm h _).mem_iff.mp (List.mem_of_mem_take hx))
/-- a row of threes, apart, free and of one kind, made into sets one behind another -/
theorem Wf.followed : ∀ (ts : List (List Nat)) {h : Hall} {k : Nat}, Wf h → (∀ t ∈ ts, t.length = 3) → ts.flatten.Nodup → (∀ x ∈ ts.flatten, isFree h x = true ∧ kind h x = k) → Wf (ts.foldl Kqv5.matched h)
  | [], h, k, w, _, _, _ => w
  | t :: ts, h, k, w, h3, nd, fr => by
    match t, h3 t List.mem_cons_self with
    | [a, b, c], _ =>
      rw [List.flatten_cons] at nd fr
      obtain ⟨n1, n2, n3⟩ := List.nodup_append.mp nd
      have nab : a ≠ b ∧ a ≠ c ∧ b ≠ c := by simp at n1; exact ⟨n1.1.1, n1.1.2, n1.2⟩
      have fa := fr a (by simp)
      have fb := fr b (by simp)
      have fc := fr c (by simp)
      have w1 : Wf (Kqv5.matched h [a, b, c]) := w.matched nab.1 nab.2.2 nab.2.1 (fa.2.trans fb.2.symm) (fb.2.trans fc.2.symm) fun x hx => (fr x (List.mem_append_left _ hx)).1
      show Wf (ts.foldl Kqv5.matched (Kqv5.matched h [a, b, c]))
      refine Wf.followed ts (k := k) w1 (fun t ht => h3 t (List.mem_cons_of_mem _ ht)) n2 fun x hx => ?_
      have nx : x ∉ [a, b, c] := fun z => n3 x z x hx rfl
      obtain ⟨f1, f2⟩ := fr x (List.mem_append_right _ hx)
      have e : (Kqv5.matched h [a, b, c]).blades[x]? = h.blades[x]? := by
        rw [matched_at]
        cases h.blades[x]? with
        | none => rfl
        | some b => rw [Option.map_some, if_neg (by simpa using nx)]
      unfold isFree kind at *
      rw [e]
      exact ⟨f1, f2⟩
/-! ### no more sets than blades -/
theorem nodup_lt : ∀ (n : Nat) (l : List Nat), l.Nodup → (∀ x ∈ l, x < n) → l.length ≤ n
  | 0, l, _, h => by
    cases l with
    | nil => exact Nat.le_refl _
    | cons a r => exact absurd (h a List.mem_cons_self) (by omega)
  | n + 1, l, nd, h => by
    have ih := nodup_lt n (l.erase n) (nd.erase n) fun x hx => by
      have h1 := h x (List.mem_of_mem_erase hx)
      have h2 : x ≠ n := fun z => by
        subst z
        exact absurd hx (by rw [nd.mem_erase_iff]; simp)
      omega
    have e := List.length_erase (a := n) (l := l)
    split at e <;> omega
/-- sets' numbers, no two alike, are at most twenty -/
theorem Wf.few {h : Hall} (w : Wf h) (ss : List Nat) (nd : ss.Nodup) (hs : ∀ s ∈ ss, ∃ t, h.sets[s]? = some (some t)) : ss.length ≤ 20 := by
  have ex : ∀ s ∈ ss, ∃ (i : Nat) (b : Blade), h.blades[i]? = some b ∧ b.set = s + 1 := fun s m => by
    obtain ⟨t, q⟩ := hs s m
    obtain ⟨⟨i, j, k, r1, _⟩, mm⟩ := w.st s t q
    obtain ⟨b, q1, q2⟩ := mm i (by rw [r1]; simp)
    exact ⟨i, b, q1, q2⟩
  have : ∀ ss : List Nat, ss.Nodup → (∀ s ∈ ss, ∃ (i : Nat) (b : Blade), h.blades[i]? = some b ∧ b.set = s + 1) → ∃ is : List Nat, is.length = ss.length ∧ is.Nodup ∧ (∀ i ∈ is, i < h.blades.length) ∧ ∀ i ∈ is, ∃ s ∈ ss, ∃ b : Blade, h.blades[i]? = some b ∧ b.set = s + 1 := by
    intro ss
    induction ss with
    | nil => intro _ _; exact ⟨[], rfl, List.nodup_nil, by simp, by simp⟩
    | cons s r ih =>
      intro nd ex
      obtain ⟨n1, n2⟩ := List.nodup_cons.mp nd
      obtain ⟨is, e1, e2, e3, e4⟩ := ih n2 fun s' m => ex s' (List.mem_cons_of_mem _ m)
      obtain ⟨i, b, q1, q2⟩ := ex s List.mem_cons_self
      refine ⟨i :: is, by simp [e1], List.nodup_cons.mpr ⟨fun m => ?_, e2⟩, fun x hx => ?_, fun x hx => ?_⟩
      · obtain ⟨s', m', b', q3, q4⟩ := e4 i m
        rw [q1] at q3
        cases q3
        have : s = s' := by omega
        exact n1 (by rw [this]; exact m')
      · rcases List.mem_cons.mp hx with rfl | hx
        · exact (List.getElem?_eq_some_iff.mp q1).1
        · exact e3 x hx
      · rcases List.mem_cons.mp hx with rfl | hx
        · exact ⟨s, List.mem_cons_self, b, q1, q2⟩
        · obtain ⟨s', m', z⟩ := e4 x hx
          exact ⟨s', List.mem_cons_of_mem _ m', z⟩
  obtain ⟨is, e1, e2, e3, _⟩ := this ss nd ex
  have := nodup_lt _ is e2 e3
  have := w.len
  omega
end M
namespace M
/-- a call by its number and its numbers -/
inductive IsCall : Nat → List Nat → Kqv5.Call → Prop
  | start (m u : Nat) : IsCall 0 [m, u] (.start m u)
  | blade (k m : Nat) : IsCall 1 [k, m] (.blade k m)
  | weigh (i m : Nat) : IsCall 2 [i, m] (.weigh i m)
  | scrap (i : Nat) : IsCall 3 [i] (.scrap i)
  | needs (i j k : Nat) : IsCall 4 [i, j, k] (.needs i j k)
  | off (i j k : Nat) : IsCall 5 [i, j, k] (.off i j k)
  | match_ (i j k : Nat) : IsCall 6 [i, j, k] (.match_ i j k)
  | set (s : Nat) : IsCall 7 [s] (.set s)
  | part (s : Nat) : IsCall 8 [s] (.part s)
  | third (i j : Nat) : IsCall 9 [i, j] (.third i j)
  | spare (s i : Nat) : IsCall 10 [s, i] (.spare s i)
  | exchange (s i x : Nat) : IsCall 11 [s, i, x] (.exchange s i x)
  | plan (k : Nat) : IsCall 12 [k] (.plan k)
  | least (k : Nat) : IsCall 13 [k] (.least k)
  | follow (k : Nat) : IsCall 14 [k] (.follow k)
  | add (i n : Nat) : IsCall 15 [i, n] (.add i n)
  | balanced (s : Nat) : IsCall 16 [s] (.balanced s)
  | ship (s : Nat) : IsCall 17 [s] (.ship s)
  | free (k : Nat) : IsCall 18 [k] (.free k)
  | look (i : Nat) : IsCall 19 [i] (.look i)
  | sums : IsCall 20 [] .sums
  | state : IsCall 21 [] .state
theorem isCall_of : ∀ (p n : Nat) (as : List Nat), PyKqv5.shape ((p : Nat) : Int) = some (n, 0) → as.length = n → ∃ cl, IsCall p as cl ∧ Kqv5Neutral.callOf (PyKqv5.whole [((p : Nat) : Int) :: Kqv5.nats as]) = some cl ∧ ([2, 2, 2, 1, 3, 3, 3, 1, 1, 2, 2, 3, 1, 1, 1, 2, 1, 1, 1, 1, 0, 0] : List Int)[p]? = some ((n : Nat) : Int)
  | 0, n, as, hs, hl => by
    have e : n = 2 := by
      have : some (2, 0) = some (n, 0) := hs
      injection this with this; injection this with this; exact this.symm
    subst e
    match as, hl with
    | [x0, x1], _ => exact ⟨_, .start x0 x1, rfl, rfl⟩
  | 1, n, as, hs, hl => by
    have e : n = 2 := by
      have : some (2, 0) = some (n, 0) := hs
      injection this with this; injection this with this; exact this.symm
    subst e
    match as, hl with
    | [x0, x1], _ => exact ⟨_, .blade x0 x1, rfl, rfl⟩
  | 2, n, as, hs, hl => by
    have e : n = 2 := by
      have : some (2, 0) = some (n, 0) := hs
      injection this with this; injection this with this; exact this.symm
    subst e
    match as, hl with
    | [x0, x1], _ => exact ⟨_, .weigh x0 x1, rfl, rfl⟩
  | 3, n, as, hs, hl => by
    have e : n = 1 := by
      have : some (1, 0) = some (n, 0) := hs
      injection this with this; injection this with this; exact this.symm
    subst e
    match as, hl with
    | [x0], _ => exact ⟨_, .scrap x0, rfl, rfl⟩
  | 4, n, as, hs, hl => by
    have e : n = 3 := by
      have : some (3, 0) = some (n, 0) := hs
      injection this with this; injection this with this; exact this.symm
    subst e
    match as, hl with
    | [x0, x1, x2], _ => exact ⟨_, .needs x0 x1 x2, rfl, rfl⟩
  | 5, n, as, hs, hl => by
    have e : n = 3 := by
      have : some (3, 0) = some (n, 0) := hs
      injection this with this; injection this with this; exact this.symm
    subst e
    match as, hl with
    | [x0, x1, x2], _ => exact ⟨_, .off x0 x1 x2, rfl, rfl⟩
  | 6, n, as, hs, hl => by
    have e : n = 3 := by
      have : some (3, 0) = some (n, 0) := hs
      injection this with this; injection this with this; exact this.symm
    subst e
    match as, hl with
    | [x0, x1, x2], _ => exact ⟨_, .match_ x0 x1 x2, rfl, rfl⟩
  | 7, n, as, hs, hl => by
    have e : n = 1 := by
      have : some (1, 0) = some (n, 0) := hs
      injection this with this; injection this with this; exact this.symm
    subst e
    match as, hl with
    | [x0], _ => exact ⟨_, .set x0, rfl, rfl⟩
  | 8, n, as, hs, hl => by
    have e : n = 1 := by
      have : some (1, 0) = some (n, 0) := hs
      injection this with this; injection this with this; exact this.symm
    subst e
    match as, hl with
    | [x0], _ => exact ⟨_, .part x0, rfl, rfl⟩
  | 9, n, as, hs, hl => by
    have e : n = 2 := by
      have : some (2, 0) = some (n, 0) := hs
      injection this with this; injection this with this; exact this.symm
    subst e
    match as, hl with
    | [x0, x1], _ => exact ⟨_, .third x0 x1, rfl, rfl⟩
  | 10, n, as, hs, hl => by
    have e : n = 2 := by
      have : some (2, 0) = some (n, 0) := hs
      injection this with this; injection this with this; exact this.symm
    subst e
    match as, hl with
    | [x0, x1], _ => exact ⟨_, .spare x0 x1, rfl, rfl⟩
  | 11, n, as, hs, hl => by
    have e : n = 3 := by
      have : some (3, 0) = some (n, 0) := hs
      injection this with this; injection this with this; exact this.symm
    subst e
    match as, hl with
    | [x0, x1, x2], _ => exact ⟨_, .exchange x0 x1 x2, rfl, rfl⟩
  | 12, n, as, hs, hl => by
    have e : n = 1 := by
      have : some (1, 0) = some (n, 0) := hs
      injection this with this; injection this with this; exact this.symm
    subst e
    match as, hl with
    | [x0], _ => exact ⟨_, .plan x0, rfl, rfl⟩
  | 13, n, as, hs, hl => by
    have e : n = 1 := by
      have : some (1, 0) = some (n, 0) := hs
      injection this with this; injection this with this; exact this.symm
    subst e
    match as, hl with
    | [x0], _ => exact ⟨_, .least x0, rfl, rfl⟩
  | 14, n, as, hs, hl => by
    have e : n = 1 := by
      have : some (1, 0) = some (n, 0) := hs
      injection this with this; injection this with this; exact this.symm
    subst e
    match as, hl with
    | [x0], _ => exact ⟨_, .follow x0, rfl, rfl⟩
  | 15, n, as, hs, hl => by
    have e : n = 2 := by
      have : some (2, 0) = some (n, 0) := hs
      injection this with this; injection this with this; exact this.symm
    subst e
    match as, hl with
    | [x0, x1], _ => exact ⟨_, .add x0 x1, rfl, rfl⟩
  | 16, n, as, hs, hl => by
    have e : n = 1 := by
      have : some (1, 0) = some (n, 0) := hs
      injection this with this; injection this with this; exact this.symm
    subst e
    match as, hl with
    | [x0], _ => exact ⟨_, .balanced x0, rfl, rfl⟩
  | 17, n, as, hs, hl => by
    have e : n = 1 := by
      have : some (1, 0) = some (n, 0) := hs
      injection this with this; injection this with this; exact this.symm
    subst e
    match as, hl with
    | [x0], _ => exact ⟨_, .ship x0, rfl, rfl⟩
  | 18, n, as, hs, hl => by
    have e : n = 1 := by
      have : some (1, 0) = some (n, 0) := hs
      injection this with this; injection this with this; exact this.symm
    subst e
    match as, hl with
    | [x0], _ => exact ⟨_, .free x0, rfl, rfl⟩
  | 19, n, as, hs, hl => by
    have e : n = 1 := by
      have : some (1, 0) = some (n, 0) := hs
      injection this with this; injection this with this; exact this.symm
    subst e
    match as, hl with
    | [x0], _ => exact ⟨_, .look x0, rfl, rfl⟩
  | 20, n, as, hs, hl => by
    have e : n = 0 := by
      have : some (0, 0) = some (n, 0) := hs
      injection this with this; injection this with this; exact this.symm
    subst e
    match as, hl with
    | [], _ => exact ⟨_, .sums, rfl, rfl⟩
  | 21, n, as, hs, hl => by
    have e : n = 0 := by
      have : some (0, 0) = some (n, 0) := hs
      injection this with this; injection this with this; exact this.symm
    subst e
    match as, hl with
    | [], _ => exact ⟨_, .state, rfl, rfl⟩
  | p + 22, n, as, hs, hl => by
    exfalso
    unfold PyKqv5.shape at hs
    simp only [show ¬ (((p + 22 : Nat) : Int) = 0) by omega, show ¬ (((p + 22 : Nat) : Int) = 1) by omega, show ¬ (((p + 22 : Nat) : Int) = 2) by omega, show ¬ (((p + 22 : Nat) : Int) = 3) by omega, show ¬ (((p + 22 : Nat) : Int) = 4) by omega, show ¬ (((p + 22 : Nat) : Int) = 5) by omega, show ¬ (((p + 22 : Nat) : Int) = 6) by omega, show ¬ (((p + 22 : Nat) : Int) = 7) by omega, show ¬ (((p + 22 : Nat) : Int) = 8) by omega, show ¬ (((p + 22 : Nat) : Int) = 9) by omega, show ¬ (((p + 22 : Nat) : Int) = 10) by omega, show ¬ (((p + 22 : Nat) : Int) = 11) by omega, show ¬ (((p + 22 : Nat) : Int) = 12) by omega, show ¬ (((p + 22 : Nat) : Int) = 13) by omega, show ¬ (((p + 22 : Nat) : Int) = 14) by omega, show ¬ (((p + 22 : Nat) : Int) = 15) by omega, show ¬ (((p + 22 : Nat) : Int) = 16) by omega, show ¬ (((p + 22 : Nat) : Int) = 17) by omega, show ¬ (((p + 22 : Nat) : Int) = 18) by omega, show ¬ (((p + 22 : Nat) : Int) = 19) by omega, show ¬ (((p + 22 : Nat) : Int) = 20) by omega, show ¬ (((p + 22 : Nat) : Int) = 21) by omega, if_false] at hs
    cases hs
end M
namespace M
open Kqv5
theorem shape_zero {p : Int} {n k : Nat} (h : PyKqv5.shape p = some (n, k)) : k = 0 := by
  unfold PyKqv5.shape at h
  by_cases h0 : p = 0
  · rw [if_pos h0] at h; injection h with h; injection h with _ h; exact h.symm
  rw [if_neg h0] at h
  by_cases h1 : p = 1
  · rw [if_pos h1] at h; injection h with h; injection h with _ h; exact h.symm
  rw [if_neg h1] at h
  by_cases h2 : p = 2
  · rw [if_pos h2] at h; injection h with h; injection h with _ h; exact h.symm
  rw [if_neg h2] at h
  by_cases h3 : p = 3
  · rw [if_pos h3] at h; injection h with h; injection h with _ h; exact h.symm
  rw [if_neg h3] at h
  by_cases h4 : p = 4
  · rw [if_pos h4] at h; injection h with h; injection h with _ h; exact h.symm
  rw [if_neg h4] at h
  by_cases h5 : p = 5
  · rw [if_pos h5] at h; injection h with h; injection h with _ h; exact h.symm
  rw [if_neg h5] at h
  by_cases h6 : p = 6
  · rw [if_pos h6] at h; injection h with h; injection h with _ h; exact h.symm
  rw [if_neg h6] at h
  by_cases h7 : p = 7
  · rw [if_pos h7] at h; injection h with h; injection h with _ h; exact h.symm
  rw [if_neg h7] at h
  by_cases h8 : p = 8
  · rw [if_pos h8] at h; injection h with h; injection h with _ h; exact h.symm
  rw [if_neg h8] at h
  by_cases h9 : p = 9
  · rw [if_pos h9] at h; injection h with h; injection h with _ h; exact h.symm
  rw [if_neg h9] at h
  by_cases h10 : p = 10
  · rw [if_pos h10] at h; injection h with h; injection h with _ h; exact h.symm
  rw [if_neg h10] at h
  by_cases h11 : p = 11
  · rw [if_pos h11] at h; injection h with h; injection h with _ h; exact h.symm
  rw [if_neg h11] at h
  by_cases h12 : p = 12
  · rw [if_pos h12] at h; injection h with h; injection h with _ h; exact h.symm
  rw [if_neg h12] at h
  by_cases h13 : p = 13
  · rw [if_pos h13] at h; injection h with h; injection h with _ h; exact h.symm
  rw [if_neg h13] at h
  by_cases h14 : p = 14
  · rw [if_pos h14] at h; injection h with h; injection h with _ h; exact h.symm
  rw [if_neg h14] at h
  by_cases h15 : p = 15
  · rw [if_pos h15] at h; injection h with h; injection h with _ h; exact h.symm
  rw [if_neg h15] at h
  by_cases h16 : p = 16
  · rw [if_pos h16] at h; injection h with h; injection h with _ h; exact h.symm
  rw [if_neg h16] at h
  by_cases h17 : p = 17
  · rw [if_pos h17] at h; injection h with h; injection h with _ h; exact h.symm
  rw [if_neg h17] at h
  by_cases h18 : p = 18
  · rw [if_pos h18] at h; injection h with h; injection h with _ h; exact h.symm
  rw [if_neg h18] at h
  by_cases h19 : p = 19
  · rw [if_pos h19] at h; injection h with h; injection h with _ h; exact h.symm
  rw [if_neg h19] at h
  by_cases h20 : p = 20
  · rw [if_pos h20] at h; injection h with h; injection h with _ h; exact h.symm
  rw [if_neg h20] at h
  by_cases h21 : p = 21
  · rw [if_pos h21] at h; injection h with h; injection h with _ h; exact h.symm
  rw [if_neg h21] at h
  cases h
theorem calls_cons : ∀ {f : Nat} {l : List Int} {raw : List (List (List Int))}, PyFlat.calls PyKqv5.shape f l = some raw → (l = [] ∧ raw = []) ∨ ∃ (p : Int) (r : List Int) (n f' : Nat) (raw' : List (List (List Int))), l = p :: r ∧ PyKqv5.shape p = some (n, 0) ∧ n ≤ r.length ∧ raw = [p :: r.take n] :: raw' ∧ PyFlat.calls PyKqv5.shape f' (r.drop n) = some raw'
  | f, [], raw, h => by
    cases f <;> (unfold PyFlat.calls at h; injection h with h; exact .inl ⟨rfl, h.symm⟩)
  | 0, p :: r, raw, h => by unfold PyFlat.calls at h; cases h
  | f + 1, p :: r, raw, h => by
    right
    have h : (match PyFlat.call PyKqv5.shape (p :: r) with | none => none | some (c, t) => match PyFlat.calls PyKqv5.shape f t with | none => none | some cs => some (c :: cs)) = some raw := h
    cases e : PyKqv5.shape p with
    | none =>
      have q : PyFlat.call PyKqv5.shape (p :: r) = none := by unfold PyFlat.call; simp only [e]
      rw [q] at h; cases h
    | some nk =>
      obtain ⟨n, k⟩ := nk
      have k0 := shape_zero e
      subst k0
      by_cases c : r.length < n
      · have q : PyFlat.call PyKqv5.shape (p :: r) = none := by unfold PyFlat.call; simp only [e, if_pos c]
        rw [q] at h; cases h
      · have q : PyFlat.call PyKqv5.shape (p :: r) = some ([p :: r.take n], r.drop n) := by unfold PyFlat.call; simp only [e, if_neg c, PyFlat.rows]
        rw [q] at h
        simp only at h
        cases e2 : PyFlat.calls PyKqv5.shape f (r.drop n) with
        | none => rw [e2] at h; cases h
        | some raw' =>
          rw [e2] at h
          injection h with h
          exact ⟨p, r, n, f, raw', rfl, e, by omega, h.symm, e2⟩
/-- what is still to be answered -/
def rest (s : Option Hall) (raw : List (List (List Int))) : List Int := PyFlat.told (PyFlat.played Kqv5Neutral.step s (raw.map PyKqv5.whole))
theorem rest_nil (s : Option Hall) : rest s [] = [] := rfl
theorem rest_cons {s : Option Hall} {c : List (List Int)} {raw : List (List (List Int))} {cl : Kqv5.Call} (h : Kqv5Neutral.callOf (PyKqv5.whole c) = some cl) :
    rest s (c :: raw) = (((Kqv5Neutral.tell (Kqv5.step s cl).2).length : Nat) : Int) :: (Kqv5Neutral.tell (Kqv5.step s cl).2 ++ rest (Kqv5.step s cl).1 raw) := by
  unfold rest
  have e : Kqv5Neutral.step s (PyKqv5.whole c) = ((Kqv5.step s cl).1, Kqv5Neutral.tell (Kqv5.step s cl).2) := by
    unfold Kqv5Neutral.step; rw [h]
  show PyFlat.told ((Kqv5Neutral.step s (PyKqv5.whole c)).2 :: PyFlat.played Kqv5Neutral.step (Kqv5Neutral.step s (PyKqv5.whole c)).1 (raw.map PyKqv5.whole)) = _
  rw [e]
  rfl
theorem answers_rest {l : List Int} {raw : List (List (List Int))} (h : PyFlat.calls PyKqv5.shape l.length l = some raw) : PyKqv5.answers l = rest none raw := by
  unfold PyKqv5.answers PyKqv5.calls
  rw [h]
  rfl
theorem asked_raw {l : List Int} (h : PyKqv5.answers_asked l = true) : ∃ raw, PyFlat.calls PyKqv5.shape l.length l = some raw ∧ (PyKqv5.answers l).length ≤ 10000000 := by
  unfold PyKqv5.answers_asked at h
  cases e : PyFlat.calls PyKqv5.shape l.length l with
  | none => rw [e] at h; cases h
  | some raw =>
    rw [e] at h
    simp only [Bool.and_eq_true] at h
    refine ⟨raw, rfl, ?_⟩
    have := h.2
    unfold PyFlat.short at this
    exact of_decide_eq_true this
theorem nats_of : ∀ {l : List Int}, (∀ x ∈ l, 0 ≤ x ∧ x ≤ 4294967295) → ∃ ms : List Nat, l = nats ms
  | [], _ => ⟨[], rfl⟩
  | a :: l, h => by
    obtain ⟨ms, e⟩ := nats_of (l := l) fun x hx => h x (List.mem_cons_of_mem _ hx)
    have := h a List.mem_cons_self
    refine ⟨a.toNat :: ms, ?_⟩
    show a :: l = ((a.toNat : Nat) : Int) :: nats ms
    rw [← e]
    congr 1
    omega
theorem nats_drop (n : Nat) (l : List Nat) : (nats l).drop n = nats (l.drop n) := by unfold nats; rw [List.map_drop]
theorem nats_take (n : Nat) (l : List Nat) : (nats l).take n = nats (l.take n) := by unfold nats; rw [List.map_take]
end M
namespace M
open Kqv5
/-! ### the plan's order is one alone -/
theorem before_iff {h : Hall} {i j : Nat} : before h i j = true ↔ full h j < full h i ∨ (full h i = full h j ∧ i ≤ j) := by
  unfold before
  rw [Bool.or_eq_true, Bool.and_eq_true, decide_eq_true_eq, decide_eq_true_eq, beq_iff_eq]
theorem before_total (h : Hall) (i j : Nat) : before h i j = true ∨ before h j i = true := by
  rw [before_iff, before_iff]; omega
theorem before_trans {h : Hall} {i j k : Nat} (a : before h i j = true) (b : before h j k = true) : before h i k = true := by
  rw [before_iff] at *; omega
theorem before_anti {h : Hall} {i j : Nat} (a : before h i j = true) (b : before h j i = true) : i = j := by
  rw [before_iff] at *; omega
theorem insertBy_pw {h : Hall} {i : Nat} : ∀ {l : List Nat}, l.Pairwise (fun a b => before h a b = true) → (insertBy h i l).Pairwise (fun a b => before h a b = true)
  | [], _ => by unfold insertBy; simp
  | j :: l, p => by
    obtain ⟨p1, p2⟩ := List.pairwise_cons.mp p
    unfold insertBy
    split
    · rename_i c
      refine List.pairwise_cons.mpr ⟨fun x hx => ?_, p⟩
      rcases List.mem_cons.mp hx with rfl | hx
      · exact c
      · exact before_trans c (p1 x hx)
    · rename_i c
      have c' : before h j i = true := (before_total h i j).resolve_left c
      refine List.pairwise_cons.mpr ⟨fun x hx => ?_, insertBy_pw p2⟩
      rcases List.mem_cons.mp ((insertBy_perm h i l).mem_iff.mp hx) with rfl | hx
      · exact c'
      · exact p1 x hx
theorem sorted_pw (h : Hall) : ∀ l : List Nat, (sorted h l).Pairwise (fun a b => before h a b = true)
  | [] => .nil
  | i :: l => insertBy_pw (sorted_pw h l)
theorem perm_one {α : Type} {r : α → α → Prop} (anti : ∀ a b, r a b → r b a → a = b) : ∀ {l1 l2 : List α}, l1.Perm l2 → l1.Pairwise r → l2.Pairwise r → l1 = l2
  | [], l2, p, _, _ => by rw [List.nil_perm.mp p]
  | a :: t1, [], p, _, _ => by have := p.length_eq; simp at this
  | a :: t1, b :: t2, p, p1, p2 => by
    obtain ⟨q1, q2⟩ := List.pairwise_cons.mp p1
    obtain ⟨q3, q4⟩ := List.pairwise_cons.mp p2
    have e : a = b := by
      have ma : a ∈ b :: t2 := p.mem_iff.mp List.mem_cons_self
      have mb : b ∈ a :: t1 := p.mem_iff.mpr List.mem_cons_self
      rcases List.mem_cons.mp ma with z | z
      · exact z
      · rcases List.mem_cons.mp mb with y | y
        · exact y.symm
        · exact anti a b (q1 b y) (q3 a z)
    subst e
    rw [perm_one anti (List.perm_cons a |>.mp p) q2 q4]
/-- any list in that order with the same items is the specification's -/
theorem sorted_one {h : Hall} {l l' : List Nat} (p : l'.Perm l) (pw : l'.Pairwise (fun a b => before h a b = true)) : l' = sorted h l :=
  perm_one (fun a b => before_anti) (p.trans (sorted_perm h l).symm) pw (sorted_pw h l)
/-- the j-th three of the plan -/
theorem threes_at : ∀ (n : Nat) (l : List Nat) (j : Nat), j < n → (threes n l)[j]? = some ((l.drop (3 * j)).take 3)
  | 0, l, j, h => by omega
  | n + 1, l, 0, h => rfl
  | n + 1, l, j + 1, h => by
    show (threes n (l.drop 3))[j]? = _
    rw [threes_at n (l.drop 3) j (by omega), List.drop_drop, show 3 + 3 * j = 3 * (j + 1) by omega]
theorem plan_at {h : Hall} {k j : Nat} (hj : j < (free h k).length / 3) : (plan h k)[j]? = some (((sorted h (free h k)).drop (3 * j)).take 3) := threes_at _ _ _ hj
end M
namespace L2
open PySem PySem.Spec PyProof.Rows
/-! ### sorted(xs, key=f): f makes a tuple of ints of each -/
/-- the order of tuples of ints -/
def leK (a b : List Int) : Prop := PyProof.Rows.lexLt itemOrd (b.map Sum.inl) (a.map Sum.inl) = false
def noStr : Nat → Bool := fun _ => false
theorem items_of : ∀ {ks : List Int} {its : List Value} (i : Nat), Vals (ks.map V.int) its → tupItems noStr i its = some (ks.map Sum.inl)
  | [], _, _, .nil => rfl
  | k :: ks, _, i, .cons r t => by
    obtain ⟨tk, rfl⟩ := r
    show (if noStr i = true then none else (tupItems noStr (i + 1) _).map (Sum.inl k :: ·)) = _
    rw [items_of (i + 1) t]
    rfl
theorem keyC_of {h : Heap} {t : Addr} {ks : List Int} {its : List Value} (r : Vals (ks.map V.int) its) (x : IsTup h t its.toArray) : G.tupKeyC h noStr (.ref t) = some (ks.map Sum.inl) := by
  obtain ⟨o, ho, hc, n, hd⟩ := x
  have h1 : G.isTupObj h (.ref t) = true := by
    show (match h.get? t with | some o => (match o.cls with | .type n => n == "tuple" | _ => false) | none => false) = true
    rw [ho]
    show (match o.cls with | .type n => n == "tuple" | _ => false) = true
    rw [hc]
    rfl
  unfold G.tupKeyC
  rw [if_pos h1]
  show (match h.get? t with | some o => (match o.data with | .seq xs _ => tupItems noStr 0 xs.toList | _ => none) | none => none) = _
  rw [ho]
  show (match o.data with | .seq xs _ => tupItems noStr 0 xs.toList | _ => none) = _
  rw [hd]
  exact items_of 0 r
theorem tupOf_of {h : Heap} {t : Addr} {k : Int} {ks : List Int} {its : List Value} (r : Vals ((k :: ks).map V.int) its) (x : IsTup h t its.toArray) : ∃ f, TupOf h noStr (.ref t) f := by
  obtain ⟨o, ho, hc, n, hd⟩ := x
  cases r with
  | cons r1 r2 =>
    rename_i u us
    exact ⟨u, t, o, _, n, rfl, ho, hc, hd, rfl, fun _ => let ⟨tk, e⟩ := r1; ⟨k, tk, e⟩, fun z => nomatch z⟩
section
variable {X : Cx} {pins : List (Addr × Obj)} {σ : St}
theorem tupsOf_of {H : Hp} {s : Shared} (I : Inv X pins σ H s) : ∀ (ts : List Addr), (∀ t ∈ ts, ∃ k ks, H t = some (.tup (((k : Int) :: ks).map V.int))) → ∃ fs, TupsOf s.heap noStr (ts.map Value.ref) fs
  | [], _ => ⟨[], .nil⟩
  | t :: ts, h => by
    obtain ⟨k, ks, e⟩ := h t List.mem_cons_self
    obtain ⟨_, its, r, x⟩ := (show ObjOk X.prog X.w H s.heap t (.tup _) from I.hok t _ e)
    obtain ⟨f, hf⟩ := tupOf_of r x
    obtain ⟨fs, hfs⟩ := tupsOf_of I ts fun t' ht' => h t' (List.mem_cons_of_mem _ ht')
    exact ⟨f :: fs, .cons hf hfs⟩
/-- what the sort is done on: the items' keys -/
structure Keyd (H : Hp) (key : Int → List Int) (ns : List Int) (ts : List Addr) : Prop where
  len : ts.length = ns.length
  at_ : ∀ (i : Nat) (t : Addr) (n : Int), ts[i]? = some t → ns[i]? = some n → H t = some (.tup ((key n).map V.int))
/-- a list of ints, item by item -/
theorem vals_ints_at {ns : List Int} {vs : List Value} (r : Vals (ns.map V.int) vs) {i : Nat} {v : Value} (h : vs[i]? = some v) : ∃ n tk, ns[i]? = some n ∧ v = Value.int n tk := by
  have hl := r.length
  rw [List.length_map] at hl
  have hi : i < ns.length := by rw [hl]; exact (List.getElem?_eq_some_iff.mp h).1
  have hn := List.getElem?_eq_getElem hi
  obtain ⟨u, hu, ru⟩ := r.get (i := i) (x := V.int ns[i]) (by rw [List.getElem?_map, hn]; rfl)
  rw [h] at hu
  cases hu
  obtain ⟨tk, rfl⟩ := ru
  exact ⟨_, tk, hn, rfl⟩
/-- a sorted array of pairs, read as ints in their keys' order -/
theorem sorted_read {H : Hp} {s : Shared} {key : Int → List Int} {ns : List Int} {ts : List Addr} {vs : List Value} {arr : Array Keyed} (I : Inv X pins σ H s) (Kd : Keyd H key ns ts) (r : Vals (ns.map V.int) vs)
    (hp : arr.Perm ((ts.map Value.ref).toArray.zip vs.toArray)) (hs : SortedToK (G.tupKindC s.heap noStr) arr arr.size) :
    ∃ ns' : List Int, ns'.Perm ns ∧ Vals (ns'.map V.int) (arr.map (·.2)).toList ∧ ns'.Pairwise (fun a b => leK (key a) (key b)) := by
  have hl := r.length
  rw [List.length_map] at hl
  have hpl : arr.toList.Perm ((ts.map Value.ref).zip vs) := by
    have := Array.perm_iff_toList_perm.mp hp
    rwa [ksk_zip] at this
  have each : ∀ p ∈ arr.toList, ∃ n tk, p.2 = Value.int n tk ∧ G.tupKeyC s.heap noStr p.1 = some ((key n).map Sum.inl) := fun p hp => by
    have hm := hpl.mem_iff.mp hp
    obtain ⟨i, hi⟩ := List.getElem?_of_mem hm
    rw [List.getElem?_zip_eq_some] at hi
    obtain ⟨h1, h2⟩ := hi
    rw [List.getElem?_map] at h1
    obtain ⟨t, ht, e1⟩ := Option.map_eq_some_iff.mp h1
    obtain ⟨n, tk, hn, e2⟩ := vals_ints_at r h2
    obtain ⟨_, its, ri, x⟩ := (show ObjOk X.prog X.w H s.heap t (.tup _) from I.hok t _ (Kd.at_ i t n ht hn))
    refine ⟨n, tk, e2, ?_⟩
    rw [← e1]
    exact keyC_of ri x
  refine ⟨arr.toList.map fun p => numOf p.2, ?_, ?_, ?_⟩
  · have h1 := hpl.map (fun p : Keyed => numOf p.2)
    have e : ((ts.map Value.ref).zip vs).map (fun p : Keyed => numOf p.2) = ns := by
      apply List.ext_getElem?
      intro i
      rw [List.getElem?_map]
      cases hv : vs[i]? with
      | none =>
        have hz : ((ts.map Value.ref).zip vs)[i]? = none := by
          rw [List.getElem?_eq_none_iff] at hv ⊢
          rw [List.length_zip]; omega
        rw [hz]
        have : ns.length ≤ i := by rw [hl]; exact List.getElem?_eq_none_iff.mp hv
        rw [List.getElem?_eq_none_iff.mpr this]; rfl
      | some v =>
        obtain ⟨n, tk, hn, rfl⟩ := vals_ints_at r hv
        have hit : i < ts.length := by rw [Kd.len]; exact (List.getElem?_eq_some_iff.mp hn).1
        have hz : ((ts.map Value.ref).zip vs)[i]? = some (Value.ref ts[i], Value.int n tk) := by
          rw [List.getElem?_zip_eq_some]
          exact ⟨by rw [List.getElem?_map, List.getElem?_eq_getElem hit]; rfl, hv⟩
        rw [hz, hn]; rfl
    rw [e] at h1
    exact h1
  · have go : ∀ l : List Keyed, (∀ p ∈ l, ∃ n tk, p.2 = Value.int n tk ∧ G.tupKeyC s.heap noStr p.1 = some ((key n).map Sum.inl)) → Vals ((l.map fun p => numOf p.2).map V.int) (l.map (·.2)) := by
      intro l
      induction l with
      | nil => intro _; exact .nil
      | cons p l ih =>
        intro h
        obtain ⟨n, tk, e, _⟩ := h p List.mem_cons_self
        refine .cons ?_ (ih fun q hq => h q (List.mem_cons_of_mem _ hq))
        show RelV (V.int (numOf p.2)) p.2
        rw [e]
        exact ⟨tk, rfl⟩
    rw [Array.toList_map]
    exact go _ each
  · rw [List.pairwise_map, List.pairwise_iff_getElem]
    intro i j hi hj hij
    have hi' : i < arr.size := by simpa using hi
    have hj' : j < arr.size := by simpa using hj
    have q := hs i j (Nat.le_of_lt hij) hj'
    obtain ⟨n, tk, e1, k1⟩ := each arr.toList[i] (List.getElem_mem hi)
    obtain ⟨m, tm, e2, k2⟩ := each arr.toList[j] (List.getElem_mem hj)
    have K1 : KK (G.tupKindC s.heap noStr) arr i = (key n).map Sum.inl := by
      unfold KK
      rw [Array.getElem?_eq_getElem hi']
      show (G.tupKeyC s.heap noStr arr[i].1).getD [] = _
      have : arr[i] = arr.toList[i] := by simp
      rw [this, k1]; rfl
    have K2 : KK (G.tupKindC s.heap noStr) arr j = (key m).map Sum.inl := by
      unfold KK
      rw [Array.getElem?_eq_getElem hj']
      show (G.tupKeyC s.heap noStr arr[j].1).getD [] = _
      have : arr[j] = arr.toList[j] := by simp
      rw [this, k2]; rfl
    rw [K1, K2] at q
    show leK (key (numOf arr.toList[i].2)) (key (numOf arr.toList[j].2))
    rw [e1, e2]
    exact q
end
end L2
namespace L2
open PySem PySem.Spec PyProof.Rows
/-- a thing known by its object -/
def isO (a : Addr) (o : Obj) : HO := .ext fun h => h.get? a = some o
theorem isO_ok {P : Program} {w : World} {H : Hp} {h : Heap} {a : Addr} {o : Obj} (e : h.get? a = some o) : ObjOk P w H h a (isO a o) := ⟨e, ⟨o, e⟩, fun _ _ e k => k _ e⟩
theorem isO_get {P : Program} {w : World} {H : Hp} {h : Heap} {a : Addr} {o : Obj} (x : ObjOk P w H h a (isO a o)) : h.get? a = some o := x.1
section
variable {X : Cx} {pins : List (Addr × Obj)} {σ : St} {A : Around} {E : Value → Shared → Prop}
/-- how a sort by keys ends: a the list, kS the keys' list -/
def SortEnd (X : Cx) (pins : List (Addr × Obj)) (σ : St) (H : Hp) (key : Int → List Int) (ns : List Int) (a kS : Addr) (fin : PySem.Fin) (s' : Shared) : Prop :=
  fin = .done (.ret .none) ∧ ∃ (H' : Hp) (ns' : List Int), Inv X pins σ H' s' ∧ H' a = some (.lst (ns'.map V.int)) ∧ ns'.Perm ns ∧ ns'.Pairwise (fun x y => leK (key x) (key y)) ∧ ∀ c o, H c = some o → c ≠ a → c ≠ kS → H' c = some o
theorem key_tail {s : Shared} {H : Hp} {key : Int → List Int} {ns ns' : List Int} {a kS : Addr} {e1 : Nat} {ts : List Addr} {st : SortSt} (I : Inv X pins σ H s) (ha : H a = some (isO a (seqObj "list" #[] e1))) (hk : H kS = some (.lst (ts.map V.ref)))
    (hf : failedOf st = none) (hl : ns.length ≤ 1000) (hp : ns'.Perm ns) (hv : Vals (ns'.map V.int) ((arrOf st).map (·.2)).toList) (ho : ns'.Pairwise (fun x y => leK (key x) (key y))) :
    wpAny (model X.prog X.w) A (ksk_tail a false e1 (.ref kS) st) (SortEnd X pins σ H key ns a kS) E s := by
  have hka : kS ≠ a := ne_of hk ha (by intro z; cases z)
  have oa : s.heap.get? a = some (seqObj "list" #[] e1) := isO_get (I.hok a _ ha)
  obtain ⟨zk, itk, nk, rk, ok⟩ := (show ObjOk X.prog X.w H s.heap kS (.lst _) from I.hok kS _ hk)
  have s1 := Heap.SameBut.update s.heap kS (Obj.mapSeq fun _ => (#[] : Array Value))
  obtain ⟨c1, hc1⟩ : ∃ c1, (s.heap.update kS (Obj.mapSeq fun _ => (#[] : Array Value))).get? kS = some (seqObj "list" #[] c1) := ⟨_, get?_update_seq ok fun _ => #[]⟩
  have oa1 : (s.heap.update kS (Obj.mapSeq fun _ => (#[] : Array Value))).get? a = some (seqObj "list" #[] e1) := (s1.2 a hka.symm).trans oa
  have I1 : Inv X pins σ (upd H kS (.lst [])) { s with heap := s.heap.update kS (Obj.mapSeq fun _ => (#[] : Array Value)), toks := s.toks } :=
    I.write (by rw [hk]; trivial) (.inl rfl) (fun b u hb q => (s1.2 b hb).trans q) ⟨_, hc1⟩ ⟨Nat.zero_le _, [], c1, .nil, hc1⟩
  have ha1 : (upd H kS (.lst [])) a = some (isO a (seqObj "list" #[] e1)) := by rw [upd_ne hka.symm]; exact ha
  have hsz : ((arrOf st).map (·.2)).size = ns'.length := by
    have := hv.length
    rw [List.length_map, Array.length_toList] at this
    exact this.symm
  have hpl := hp.length_eq
  have s2 := Heap.SameBut.update (s.heap.update kS (Obj.mapSeq fun _ => (#[] : Array Value))) a (Obj.mapSeq fun _ => (arrOf st).map (·.2))
  obtain ⟨c2, hc2⟩ : ∃ c2, ((s.heap.update kS (Obj.mapSeq fun _ => (#[] : Array Value))).update a (Obj.mapSeq fun _ => (arrOf st).map (·.2))).get? a = some (seqObj "list" ((arrOf st).map (·.2)) c2) := ⟨_, get?_update_seq oa1 fun _ => (arrOf st).map (·.2)⟩
  have hbig : 1000 ≤ sizeLine := by decide
  have I2 : Inv X pins σ (upd (upd H kS (.lst [])) a (.lst (ns'.map V.int))) { s with heap := (s.heap.update kS (Obj.mapSeq fun _ => (#[] : Array Value))).update a (Obj.mapSeq fun _ => (arrOf st).map (·.2)), toks := s.toks } :=
    I1.write (by rw [ha1]; trivial) (.inl rfl) (fun b u hb q => (s2.2 b hb).trans q) ⟨_, hc2⟩ ⟨by rw [List.length_map]; omega, ((arrOf st).map (·.2)).toList, c2, hv, by rw [Array.toArray_toList]; exact hc2⟩
  unfold ksk_tail
  try dsimp only
  refine wpAny_bind (listUpdate_at ok rfl ?_ (by rw [List.size_toArray, ← rk.length]; exact zk) (Nat.zero_le _))
  refine wpAny_bind (wpAny_letGo ?_)
  refine wpAny_bind (seqEpoch_at oa1 rfl ?_)
  refine wpAny_bind (listUpdate_at oa1 rfl ?_ (Nat.zero_le _) (Nat.le_trans (Nat.le_of_eq hsz) (by omega)))
  rw [hf]
  simp only [bne_self_eq_false, Bool.false_eq_true, if_false]
  refine wpAny_pure ⟨rfl, _, ns', I2, upd_same, hp, ho, fun c o e n1 n2 => by rw [upd_ne n1, upd_ne n2]; exact e⟩
theorem keyd_tups {H : Hp} {key : Int → List Int} {ns : List Int} {ts : List Addr} (hkey : ∀ n ∈ ns, ∃ k ks, key n = k :: ks) (Kd : Keyd H key ns ts) : ∀ t ∈ ts, ∃ k ks, H t = some (.tup (((k : Int) :: ks).map V.int)) := fun t ht => by
  obtain ⟨i, hi⟩ := List.getElem?_of_mem ht
  have hl : i < ns.length := by rw [← Kd.len]; exact (List.getElem?_eq_some_iff.mp hi).1
  obtain ⟨k, ks, e⟩ := hkey ns[i] (List.getElem_mem hl)
  exact ⟨k, ks, by rw [← e]; exact Kd.at_ i t _ hi (List.getElem?_eq_getElem hl)⟩
theorem keyd_keys {H : Hp} {s : Shared} {key : Int → List Int} {ns : List Int} {ts : List Addr} {vs : List Value} (I : Inv X pins σ H s) (hkey : ∀ n ∈ ns, ∃ k ks, key n = k :: ks) (Kd : Keyd H key ns ts) :
    KeysOf (G.tupKindC s.heap noStr) ((ts.map Value.ref).toArray.zip vs.toArray) := fun p hp => by
  rw [ksk_zip] at hp
  obtain ⟨x, y⟩ := p
  obtain ⟨t, ht, rfl⟩ := List.mem_map.mp (List.of_mem_zip hp).1
  obtain ⟨k, ks, e⟩ := keyd_tups hkey Kd t ht
  obtain ⟨_, its, r, z⟩ := (show ObjOk X.prog X.w H s.heap t (.tup _) from I.hok t _ e)
  exact ⟨_, keyC_of r z⟩
theorem key_end {s : Shared} {H : Hp} {key : Int → List Int} {ns : List Int} {a kS : Addr} {e1 : Nat} {ts : List Addr} {vs : List Value} (I : Inv X pins σ H s) (ha : H a = some (isO a (seqObj "list" #[] e1))) (hk : H kS = some (.lst (ts.map V.ref)))
    (hkey : ∀ n ∈ ns, ∃ k ks, key n = k :: ks) (Kd : Keyd H key ns ts) (r : Vals (ns.map V.int) vs) (hl : ns.length ≤ 1000) :
    wpAny (model X.prog X.w) A (ksk_end a false vs.toArray e1 (.ref kS) (ts.map Value.ref).toArray) (SortEnd X pins σ H key ns a kS) E s := by
  have hv := r.length
  rw [List.length_map] at hv
  have hzs : ((ts.map Value.ref).toArray.zip vs.toArray).size = vs.length := by rw [Array.size_zip, List.size_toArray, List.size_toArray, List.length_map, Kd.len]; omega
  unfold ksk_end
  try dsimp only
  simp only [Bool.false_eq_true, if_false]
  by_cases h2 : vs.toArray.size < 2
  · rw [if_pos h2, if_pos h2]
    refine wpAny_bind (wpAny_pure ?_)
    rw [StateT.run_pure]
    refine wpAny_bind (wpAny_pure ?_)
    try dsimp only
    obtain ⟨ns', p1, p2, p3⟩ := sorted_read (arr := arrOf (SortSt.mk' general' ((ts.map Value.ref).toArray.zip vs.toArray) #[] 7 none)) I Kd r (Array.Perm.refl _) (by
      intro i j hij hj
      have hj2 : j < ((ts.map Value.ref).toArray.zip vs.toArray).size := hj
      rw [hzs] at hj2
      rw [List.size_toArray] at h2
      have : i = j := by omega
      subst this
      exact KeyOrd.kle_refl _)
    exact key_tail (st := SortSt.mk' general' ((ts.map Value.ref).toArray.zip vs.toArray) #[] 7 none) I ha hk rfl hl p1 p2 p3
  · rw [if_neg h2, if_neg h2]
    rw [List.size_toArray] at h2
    obtain ⟨fs, hfs⟩ := tupsOf_of I ts (keyd_tups hkey Kd)
    refine wpAny_bind (tup_kind (s := s) (by rw [G.TupsOf.length hfs, List.length_map, Kd.len]; omega) hfs ?_)
    refine wpAny_bind (wpAny_mono (G.wpS_sortRunsSt (κ := G.tupKindC s.heap noStr) (kd := tuples' true) (a₀ := (ts.map Value.ref).toArray.zip vs.toArray)
      (st := SortSt.mk' (tuples' true) ((ts.map Value.ref).toArray.zip vs.toArray) #[] 7 none)
      (Q := fun _ st' => (arrOf st').Perm ((ts.map Value.ref).toArray.zip vs.toArray) ∧ failedOf st' = none ∧ SortedToK (G.tupKindC s.heap noStr) (arrOf st') ((ts.map Value.ref).toArray.zip vs.toArray).size)
      (G.tupC_ltAt (s := s) true (G.KeepsTups.refl _)) (keyd_keys I hkey Kd) ⟨Array.Perm.refl _, rfl, rfl⟩ rfl (Stable.refl _) (by rw [hzs]; omega)
      fun st' a1 a2 a3 _ => ⟨a1, a2, a3⟩) ?_ fun _ _ e => e)
    rintro ⟨⟨⟩, st'⟩ s' ⟨rfl, hp, hf, hs⟩
    try dsimp only
    obtain ⟨ns', p1, p2, p3⟩ := sorted_read I Kd r hp (by rw [hp.size_eq]; exact hs)
    exact key_tail I ha hk hf hl p1 p2 p3
end
end L2
namespace L2
open PySem PySem.Spec PyProof.Rows
section
variable {X : Cx} {pins : List (Addr × Obj)} {σ : St} {A : Around} {E : Value → Shared → Prop}
/-- what a key's call gives -/
def KeyOut (H : Hp) (key : Int → List Int) (n : Int) : VK := fun v H' => Same H H' ∧ ∃ t, v = .ref t ∧ H' t = some (.tup ((key n).map V.int))
/-- the keys are made one behind another -/
theorem key_rest {s : Shared} {H : Hp} {key : Int → List Int} {ns : List Int} {a kS f : Addr} {e1 : Nat} {vs : List Value} (I : Inv X pins σ H s) (ha : H a = some (isO a (seqObj "list" #[] e1))) (hk : H kS = some (.lst []))
    (hkey : ∀ n ∈ ns, ∃ k ks, key n = k :: ks) (r : Vals (ns.map V.int) vs) (hl : ns.length ≤ 1000)
    (turn : ∀ (n : Int) (u : Value) (H' : Hp) (s' : Shared), n ∈ ns → RelV (.int n) u → Inv X pins σ H' s' → (∀ c o, H c = some o → c ≠ kS → H' c = some o) →
      wpAny (model X.prog X.w) A (call (.ref f) [u]) (EP X pins σ (KeyOut H' key n)) (fun _ _ => False) s') :
    wpAny (model X.prog X.w) A (ksk_rest a (.ref f) false vs.toArray e1 (.ref kS)) (SortEnd X pins σ H key ns a kS) E s := by
  have hka : kS ≠ a := ne_of hk ha (by intro z; cases z)
  have hv := r.length
  rw [List.length_map] at hv
  have hbig : 1000 < sizeLine := by decide
  unfold ksk_rest
  refine wpAny_bind (wpAny_rule ?_)
  first
    | rw [List.forIn_toArray]
    | (rw [← Array.forIn_toList]; simp only [List.toList_toArray])
    | rw [← Array.forIn_toList]
  refine wpAny_bind (ksk_fold (fun i s' => ∃ (H' : Hp) (ts : List Addr), Inv X pins σ H' s' ∧ (∀ c o, H c = some o → c ≠ kS → H' c = some o) ∧ H' kS = some (.lst (ts.map V.ref)) ∧ Keyd H' key (ns.take i) ts) vs 0 s
    ⟨H, [], I, fun c o e _ => e, hk, ⟨by simp, fun i t n h => by simp at h⟩⟩ ?step ?done)
  case step =>
    rintro j x s' hx ⟨H', ts, I', kp, hk', Kd⟩
    simp only [Nat.zero_add] at Kd ⊢
    obtain ⟨n, tk, hn, rfl⟩ := vals_ints_at r hx
    have hj : j < ns.length := (List.getElem?_eq_some_iff.mp hn).1
    have htl : ts.length = j := by rw [Kd.len, List.length_take]; omega
    refine wpAny_bind (wpAny_attempt (wpAny_mono (turn n (.int n tk) H' s' (List.mem_of_getElem? hn) ⟨tk, rfl⟩ I' kp) (fun v s'' he => ?_) fun _ _ hF => hF.elim))
    obtain ⟨v', H2, I2, rv, sm, t, rfl, ht⟩ := he
    cases (show v = Value.ref t from rv)
    try dsimp only
    have hk2 := sm _ _ hk'
    obtain ⟨zk, itk, nk, rk, ok⟩ := (show ObjOk X.prog X.w H2 s''.heap kS (.lst _) from I2.hok kS _ hk2)
    have hitk : itk.length = j := by rw [← rk.length, List.length_map, htl]
    have s1 := Heap.SameBut.update s''.heap kS (Obj.mapSeq (·.push (.ref t)))
    obtain ⟨c2, hc2⟩ : ∃ c2, (s''.heap.update kS (Obj.mapSeq (·.push (.ref t)))).get? kS = some (seqObj "list" (itk.toArray.push (.ref t)) c2) := ⟨_, get?_update_seq ok (·.push (.ref t))⟩
    refine wpAny_bind (listUpdate_at ok rfl ?_ (by rw [List.size_toArray, hitk]; omega) (Nat.le_trans (Nat.le_of_eq (Array.size_push ..)) (by rw [List.size_toArray, hitk]; omega)))
    have I3 : Inv X pins σ (upd H2 kS (.lst ((ts ++ [t]).map V.ref))) { s'' with heap := s''.heap.update kS (Obj.mapSeq (·.push (.ref t))), toks := s''.toks } := by
      refine I2.write (by rw [hk2]; trivial) (.inl rfl) (fun b u hb q => (s1.2 b hb).trans q) ⟨_, hc2⟩ ⟨?_, itk ++ [.ref t], c2, ?_, ?_⟩
      · rw [List.length_map, List.length_append, List.length_singleton, htl]; omega
      · rw [List.map_append]
        exact rk.append (.cons rfl .nil)
      · rw [hc2]; simp
    have tne : t ≠ kS := ne_of ht hk2 (by intro z; cases z)
    refine wpAny_pure ⟨rfl, _, ts ++ [t], I3, fun c o e n => by rw [upd_ne n]; exact sm _ _ (kp c o e n), upd_same, ⟨?_, fun i t' n' h1 h2 => ?_⟩⟩
    · rw [List.length_append, htl, List.length_take, List.length_singleton]; omega
    · have hne : ∀ {c : Addr} {ks : List V}, H2 c = some (.tup ks) → c ≠ kS := fun e => ne_of e hk2 (by intro z; cases z)
      by_cases hi : i < j
      · rw [List.getElem?_append_left (by omega)] at h1
        rw [List.getElem?_take_of_lt (by omega)] at h2
        have q := Kd.at_ i t' n' h1 (by rw [List.getElem?_take_of_lt hi]; exact h2)
        have q2 := sm _ _ q
        rw [upd_ne (hne q2)]
        exact q2
      · have hi2 : i = j := by
          have := (List.getElem?_eq_some_iff.mp h1).1
          rw [List.length_append, List.length_singleton, htl] at this
          omega
        subst hi2
        rw [List.getElem?_append_right (by omega), htl] at h1
        simp at h1
        subst h1
        rw [List.getElem?_take_of_lt (by omega), hn] at h2
        cases h2
        rw [upd_ne tne]
        exact ht
  case done =>
    rintro s' ⟨H', ts, I', kp, hk', Kd⟩
    have e3 : ns.take (0 + vs.length) = ns := List.take_of_length_le (by omega)
    rw [e3] at Kd
    obtain ⟨zk, itk, nk, rk, ok⟩ := (show ObjOk X.prog X.w H' s'.heap kS (.lst _) from I'.hok kS _ hk')
    have eit : ∀ (ts : List Addr) (its : List Value), Vals (ts.map V.ref) its → its = ts.map Value.ref := by
      intro ts
      induction ts with
      | nil => intro its r; cases r; rfl
      | cons t ts ih =>
        intro its r
        cases r with
        | cons r1 r2 =>
          rw [ih _ r2, show _ = Value.ref t from r1]
          rfl
    rw [eit _ _ rk] at ok
    try dsimp only
    refine wpAny_bind (listItems_at ok rfl ?_)
    refine wpAny_mono (key_end I' (kp _ _ ha hka.symm) hk' hkey Kd r hl) (fun fin s3 h3 => ?_) fun _ _ e => e
    obtain ⟨h1, H3, ns', J, q1, q2, q3, q4⟩ := h3
    exact ⟨h1, H3, ns', J, q1, q2, q3, fun c o e n1 n2 => q4 c o (kp c o e n2) n1 n2⟩
/-- list.sort(key=f) of a new list -/
theorem key_tree {s : Shared} {H : Hp} {key : Int → List Int} {ns : List Int} {a f : Addr} {vs : List Value} {n0 : Nat} (I : Inv X pins σ H s) (ha : H a = some (.lst (ns.map V.int))) (oa : s.heap.get? a = some (seqObj "list" vs.toArray n0))
    (hkey : ∀ n ∈ ns, ∃ k ks, key n = k :: ks) (r : Vals (ns.map V.int) vs) (hl : ns.length ≤ 1000)
    (turn : ∀ (n : Int) (u : Value) (H' : Hp) (s' : Shared), n ∈ ns → RelV (.int n) u → Inv X pins σ H' s' → (∀ c o, H c = some o → c ≠ a → H' c = some o) →
      wpAny (model X.prog X.w) A (call (.ref f) [u]) (EP X pins σ (KeyOut H' key n)) (fun _ _ => False) s') :
    wpAny (model X.prog X.w) A (ksk_tree a (.ref f) false) (fun fin s' => fin = .done (.ret .none) ∧ ∃ (H' : Hp) (ns' : List Int), Inv X pins σ H' s' ∧ H' a = some (.lst (ns'.map V.int)) ∧ ns'.Perm ns ∧ ns'.Pairwise (fun x y => leK (key x) (key y)) ∧ ∀ c o, H c = some o → c ≠ a → H' c = some o) E s := by
  have hv := r.length
  rw [List.length_map] at hv
  have hbig : 1000 < sizeLine := by decide
  have s1 := Heap.SameBut.update s.heap a (Obj.mapSeq fun _ => (#[] : Array Value))
  obtain ⟨e1, ho1⟩ : ∃ e1, (s.heap.update a (Obj.mapSeq fun _ => (#[] : Array Value))).get? a = some (seqObj "list" #[] e1) := ⟨_, get?_update_seq oa fun _ => #[]⟩
  have hsz1 : (s.heap.update a (Obj.mapSeq fun _ => (#[] : Array Value))).objs.size = s.heap.objs.size := Heap.size_update ..
  have I1 : Inv X pins σ (upd H a (isO a (seqObj "list" #[] e1))) { s with heap := s.heap.update a (Obj.mapSeq fun _ => (#[] : Array Value)), toks := s.toks } :=
    I.write (by rw [ha]; trivial) (.inl rfl) (fun b u hb q => (s1.2 b hb).trans q) ⟨_, ho1⟩ (isO_ok ho1)
  have I2 : Inv X pins σ (upd H a (isO a (seqObj "list" #[] e1))) { s with heap := (s.heap.update a (Obj.mapSeq fun _ => (#[] : Array Value))).push (seqObj "tuple" vs.toArray 0), toks := s.toks } :=
    I1.kept (t' := s.toks) fun b u q => Heap.get?_push_of_some _ q
  have hkS : ((s.heap.update a (Obj.mapSeq fun _ => (#[] : Array Value))).push (seqObj "tuple" vs.toArray 0)).objs.size = s.heap.objs.size + 1 := by rw [size_push', Heap.size_update]
  generalize hks : ((s.heap.update a (Obj.mapSeq fun _ => (#[] : Array Value))).push (seqObj "tuple" vs.toArray 0)).objs.size = kS at hkS
  have fr : (upd H a (isO a (seqObj "list" #[] e1))) kS = none := I2.hok.fresh (by rw [← hks]; exact Nat.le_refl _)
  have I3 : Inv X pins σ (upd (upd H a (isO a (seqObj "list" #[] e1))) kS (.lst [])) { s with heap := ((s.heap.update a (Obj.mapSeq fun _ => (#[] : Array Value))).push (seqObj "tuple" vs.toArray 0)).push (seqObj "list" #[] 0), toks := s.toks } :=
    I2.laid (t' := s.toks) (fun b u q => Heap.get?_push_of_some _ q) (Nat.le_of_eq hks) ⟨Nat.zero_le _, [], 0, .nil, by rw [← hks]; exact Heap.get?_push_size _ rfl⟩
  have kSa : kS ≠ a := fun z => by rw [z, upd_same] at fr; cases fr
  unfold ksk_tree
  refine wpAny_bind (listItems_at oa rfl ?_)
  refine wpAny_bind (listUpdate_at oa rfl ?_ (by rw [List.size_toArray]; omega) (Nat.zero_le _))
  refine wpAny_bind (seqEpoch_at ho1 rfl ?_)
  refine wpAny_bind (wpAny_newTuple ?_ (by show vs.length ≤ _; omega))
  refine wpAny_bind (wpAny_newList ?_ (Nat.zero_le _))
  refine wpAny_holding ?_
  show wpAny (model X.prog X.w) A (ksk_rest a (.ref f) false vs.toArray e1 (.ref ((s.heap.update a (Obj.mapSeq fun _ => (#[] : Array Value))).push (seqObj "tuple" vs.toArray 0)).objs.size)) _ E { s with heap := ((s.heap.update a (Obj.mapSeq fun _ => (#[] : Array Value))).push (seqObj "tuple" vs.toArray 0)).push (seqObj "list" #[] 0), toks := s.toks }
  rw [hks]
  refine wpAny_mono (key_rest I3 (by rw [upd_ne kSa.symm, upd_same]) upd_same hkey r hl fun n u H' s' hn ru I' kp => ?_) (fun fin s3 h3 => ?_) fun _ _ e => e
  · refine turn n u H' s' hn ru I' fun c o e n => ?_
    have nk : c ≠ kS := fun z => by rw [z] at e n; rw [upd_ne n, e] at fr; cases fr
    exact kp c o (by rw [upd_ne nk, upd_ne n]; exact e) nk
  · obtain ⟨h1, H3, ns', J, q1, q2, q3, q4⟩ := h3
    refine ⟨h1, H3, ns', J, q1, q2, q3, fun c o e n => ?_⟩
    have nk : c ≠ kS := fun z => by rw [z] at e n; rw [upd_ne n, e] at fr; cases fr
    exact q4 c o (by rw [upd_ne nk, upd_ne n]; exact e) n nk
/-- sorted(l, key=f) -/
theorem run_sortKey {s : Shared} {H : Hp} {key : Int → List Int} {ns : List Int} {l f : Addr} {Q : VK} (I : Inv X pins σ H s) (hs : SqL X.K H l (ns.map V.int)) (hl : ns.length ≤ 1000) (hkey : ∀ n ∈ ns, ∃ k ks, key n = k :: ks)
    (turn : ∀ (n : Int) (u : Value) (H' : Hp) (s' : Shared), n ∈ ns → RelV (.int n) u → Inv X pins σ H' s' → Same H H' →
      wpAny (model X.prog X.w) A.in1.in1 (call (.ref f) [u]) (EP X pins σ (KeyOut H' key n)) (fun _ _ => False) s')
    (done : ∀ (H' : Hp) (ns' : List Int) (D : Addr), Same H H' → H D = none → H' D = some (.lst (ns'.map V.int)) → ns'.Perm ns → ns'.Pairwise (fun x y => leK (key x) (key y)) → Q (.ref D) H') :
    wpAny (model X.prog X.w) A (call (.builtin "sorted") [.ref l] [(Str.ofString "key", .ref f)]) (EP X pins σ Q) E s := by
  obtain ⟨vs, r, pl, _⟩ := I.list hs
  have hl2 : s.heap.IsList l vs.toArray := pl.isList
  have hv := r.length
  rw [List.length_map] at hv
  have hbig : 1000 < sizeLine := by decide
  refine call_function_entry_kw kind_sorted plain_sorted entry_sorted (ksk_s1 _ _) ?_
  unfold Builtin.«sorted»
  refine wpAny_bind (m := checkCount "sorted" 1 1 _) (wpAny_pure ?_)
  refine wpAny_bind (collect_list hl2 ?_ (by omega))
  refine wpAny_bind (wpAny_newList ?_ (by omega))
  have hsz : ((s.heap.push (seqObj "list" #[] 0)).update s.heap.objs.size (Obj.mapSeq (· ++ vs.toArray))).objs.size = s.heap.objs.size + 1 := by
    rw [Heap.size_update, size_push']
  have hoL : (((s.heap.push (seqObj "list" #[] 0)).update s.heap.objs.size (Obj.mapSeq (· ++ vs.toArray))).push (seqObj "list" vs.toArray 0)).get? (s.heap.objs.size + 1) = some (seqObj "list" vs.toArray 0) := by
    rw [← hsz]; exact Heap.get?_push_size _ rfl
  have keep : ∀ b o, s.heap.get? b = some o → (((s.heap.push (seqObj "list" #[] 0)).update s.heap.objs.size (Obj.mapSeq (· ++ vs.toArray))).push (seqObj "list" vs.toArray 0)).get? b = some o := fun b o q => by
    have hlt : b < s.heap.objs.size := Heap.lt_size q
    rw [Heap.get?_push_ne _ _ _ (by rw [hsz]; exact Nat.ne_of_lt (Nat.lt_succ_of_lt hlt)), Heap.get?_update_ne _ _ _ _ (Nat.ne_of_lt hlt), Heap.get?_push_ne _ _ _ (Nat.ne_of_lt hlt)]
    exact q
  have fr : H (s.heap.objs.size + 1) = none := I.hok.fresh (Nat.le_succ _)
  have I1 : Inv X pins σ (upd H (s.heap.objs.size + 1) (.lst (ns.map V.int))) { s with heap := ((s.heap.push (seqObj "list" #[] 0)).update s.heap.objs.size (Obj.mapSeq (· ++ vs.toArray))).push (seqObj "list" vs.toArray 0), toks := s.toks } :=
    I.laid (t' := s.toks) keep (Nat.le_succ _) ⟨by rw [List.length_map]; omega, vs, 0, r, hoL⟩
  show wpAny _ _ _ _ _ { s with heap := ((s.heap.push (seqObj "list" #[] 0)).update s.heap.objs.size (Obj.mapSeq (· ++ vs.toArray))).push (seqObj "list" vs.toArray 0) }
  rw [hsz]
  refine wpAny_bind (wpAny_holding (wpAny_call_entry_kw slot_list_sort ⟨_, hoL, rfl⟩ entry_list_sort ?body (ksk_l1 _ _)))
  case body =>
    show wpAny (model X.prog X.w) A.in1.in1 (Builtin.«list.sort» ⟨[.ref (s.heap.objs.size + 1)], [(Str.ofString "key", .ref f)]⟩) _ _ _
    rw [ksk_t1]
    refine wpAny_mono (key_tree I1 upd_same hoL hkey r hl fun n u H' s' hn ru I' kp => ?_) (fun fin s3 h3 => ?_) fun _ _ e => e
    · exact turn n u H' s' hn ru I' fun c o e => kp c o (by rw [upd_ne (ne_of_none e fr)]; exact e) (ne_of_none e fr)
    · obtain ⟨rfl, H3, ns', J, q1, q2, q3, q4⟩ := h3
      refine ⟨_, rfl, wpAny_pure ⟨_, rfl, .ref (s.heap.objs.size + 1), H3, J, rfl, done H3 ns' _ (fun c o e => q4 c o (by rw [upd_ne (ne_of_none e fr)]; exact e) (ne_of_none e fr)) fr q1 q2 q3⟩⟩
end
end L2
namespace L2
open PySem PySem.Spec PyProof.Rows
/-! ### a lambda's call: one parameter x, one name y from around it -/
abbrev lamEnv (qual : Str) (scope : Scope) (L f : Addr) (cd : Value) (cl : List (Str × Addr)) : Env := newEnv scope L mainGlobals cl (qual ++ ".<locals>.") (some f) cd none builtinsNs
def lamCx (P : Program) (w : World) (K : PySem.W.Frag) (mg : Str → Option Value) (base : Heap) (x y qual : Str) (scope : Scope) (f : Addr) (cd : Value) (cl : List (Str × Addr)) (A : Around) (outer : List Env) (s : Shared) (H : Hp) : Cx where
  prog := P
  w := w
  K := K
  mg := mg
  base := base
  A := A.deeper (lamEnv qual scope s.heap.objs.size f cd cl)
  N := [x, y]
  s_0 := s
  H_0 := H
  env := lamEnv qual scope s.heap.objs.size f cd cl
  outer := outer
  stack := lamEnv qual scope s.heap.objs.size f cd cl :: outer
  ex := []
  fn := fun _ => false
  calm := true
  pn := []
  xe := fun _ _ => False
structure LamScope (x y : Str) (scope : Scope) : Prop where
  kind : scope.kind = .function
  co : scope.isCoroutine = false
  gen : scope.isGenerator = false
  nocell : ∀ z ∈ scope.names, z.2 ≠ .cell
  xl : scope.names.lookup x = some .local
  yf : scope.names.lookup y = some .free
  only : ∀ z ∈ scope.names, z.2 = .free → z.1 = y
  ne : x ≠ y
theorem lam_run {P : Program} {w : World} {K : PySem.W.Frag} {mg : Str → Option Value} {base : Heap} {A : Around} {outer : List Env} {s : Shared} {H : Hp} {k : Nat} {x y name qual : Str} {params : Arguments} {body : Expr} {scope : Scope} {pm ctv : Value} {c' f c : Addr} {u wv : Value} {n v : V} {tb : TE} {Q : VK}
    (hr : Room (k + 1) A) (e0 : Env0 P w K mg base A outer s H) (ho : s.heap.get? f = some (PySem.W.kla_obj name qual params body scope [(y, c)] pm c' ctv)) (hcd : s.heap.CodeRec (.ref c') qual)
    (hb : bindArgs (PySem.W.kla_fn name qual params body scope [(y, c)] pm (.ref c') ctv) ⟨[u], []⟩ = pure [(x, u)]) (S : LamScope x y scope) (hc : s.heap.IsCell c (some wv)) (hH : H c = none) (ru : RelV n u) (rv : RelV v wv)
    (hbody : PE (lamCx P w K mg base x y qual scope f (.ref c') [(y, c)] A outer s H) body tb) (hq : tb [some n, some v] H Q) :
    wpAny (model P w) A (call (.ref f) [u]) (fun r s' => CE outer P w H s Q r s') (fun _ _ => False) s := by
  have lim : s.heap.NoLimit := e0.mod.nolimit.keeps fun b o e => (e0.bs b o e).1
  refine wpAny_call (PySem.W.kla_callFunE hr.depth ho rfl S.co S.gen rfl hcd ?_)
  rw [hb]
  refine wpAny_pure (wpAny_newFunctionEnv S.nocell (fun z hz => ?_) (fun h1 hns hsb => ?_) S.kind)
  · have : z = (x, u) := by simpa using hz
    rw [this]; exact S.xl
  have keep : ∀ b o, s.heap.get? b = some o → h1.get? b = some o := fun b o e => hsb.extBut b o (Nat.ne_of_lt (Heap.lt_size e)) (Heap.get?_push_of_some _ e)
  refine ⟨lim.keeps keep, ?_⟩
  show codeAny _ _ (.expr body (lamEnv qual scope s.heap.objs.size f (.ref c') [(y, c)])) _ _
  have look : ∀ {z : Str} {b : Addr}, ([(y, c)] : List (Str × Addr)).lookup z = some b → z = y ∧ b = c := fun {z b} e => by
    rw [List.lookup_cons] at e
    cases q : z == y with
    | true => rw [q] at e; exact ⟨eq_of_beq q, (Option.some.inj e).symm⟩
    | false => rw [q] at e; cases e
  have look1 : ([(y, c)] : List (Str × Addr)).lookup y = some c := by rw [List.lookup_cons]; simp
  have noA : ∀ b : Addr, b ∉ (lamCx P w K mg base x y qual scope f (.ref c') [(y, c)] A outer s H).ex := fun b z => absurd (show b ∈ ([] : List Addr) from z) (by simp)
  have ok : (lamCx P w K mg base x y qual scope f (.ref c') [(y, c)] A outer s H).Ok := by
    refine ⟨e0.mod, S.kind, rfl, rfl, Nat.le_refl _, fun z z' b h1 h2 => ?_, fun z hz => ?_, fun z b hz => absurd (show false = true from hz) Bool.false_ne_true, fun _ => hr.hd, Around.frames_deeper e0.frames, .inr ⟨rfl, rfl⟩, fun b z => absurd z (noA b), e0.bs, e0.bsz, fun b _ _ => noA b, fun b z => absurd z (noA b), e0.funs, e0.frf⟩
    · exact (look h1).1.trans (look h2).1.symm
    · have hz : scope.names.lookup z = some .cell ∨ scope.names.lookup z = some .free := hz
      rcases hz with hz | hz
      · exact absurd rfl (S.nocell _ (PySem.mem_of_lookup hz))
      · have e : z = y := S.only _ (PySem.mem_of_lookup hz) rfl
        subst e
        exact ⟨c, look1⟩
  have I : Inv (lamCx P w K mg base x y qual scope f (.ref c') [(y, c)] A outer s H) [] [some n, some v] H { s with heap := h1, toks := s.toks + [(x, u)].length } := by
    refine ⟨ok, rfl, e0.bare, Un.kept keep, ⟨_, hns, fun i z a h1 h2 h3 => ?_⟩, fun z b h => ?_, e0.hok.fresh (Nat.le_refl _), fun z b h => ?_, fun p hp => absurd (show p ∈ ([] : List (Addr × Obj)) from hp) (by simp), e0.hok.kept keep, rfl⟩
    · rcases i with _ | _ | i
      · have e1 : x = z := Option.some.inj (show some x = some z from h1)
        have e2 : some n = some a := Option.some.inj (show some (some n) = some (some a) from h2)
        cases e2
        subst e1
        refine ⟨u, ru, .inl ⟨S.xl, ?_⟩⟩
        show ([(x, u)].reverse).lookup x = some u
        simp
      · have e1 : y = z := Option.some.inj (show some y = some z from h1)
        have e2 : some v = some a := Option.some.inj (show some (some v) = some (some a) from h2)
        cases e2
        subst e1
        exact ⟨wv, rv, .inr ⟨.inr S.yf, c, look1, hc.keeps keep⟩⟩
      · exact absurd (show ([x, y] : List Str)[i + 2]? = some z from h1) (by simp)
    · obtain ⟨_, rfl⟩ := look h
      exact ⟨_, hc.keeps keep⟩
    · obtain ⟨_, rfl⟩ := look h
      exact hH
  refine PySem.W.kla_codeExpr (wpAny_mono (hbody [] _ _ H _ I hq) (fun r s' h => ?_) fun _ _ z => z.elim)
  obtain ⟨v', H', J, rv', q⟩ := h
  exact ⟨v', H', J.os, J.bare, J.base, J.hok, rv', q⟩
end L2
namespace L2
open PySem PySem.Spec PyProof.Rows
/-! ### a lambda is made: the table of its def's code -/
def codeX (c : Addr) (qual : Str) : HO := .ext fun h => h.CodeRec (.ref c) qual
theorem codeX_ok {P : Program} {w : World} {H : Hp} {h : Heap} {c : Addr} {qual : Str} (e : h.CodeRec (.ref c) qual) : ObjOk P w H h c (codeX c qual) := by
  refine ⟨e, ?_, fun h1 h2 x k => ?_⟩
  · obtain ⟨c', o, vs, t, q, g, _⟩ := e
    cases q
    exact ⟨o, g⟩
  · obtain ⟨c', o, vs, t, q, g, r⟩ := x
    cases q
    exact ⟨c, o, vs, t, rfl, k _ g, r⟩
theorem codeX_get {P : Program} {w : World} {H : Hp} {h : Heap} {c : Addr} {qual : Str} (x : ObjOk P w H h c (codeX c qual)) : h.CodeRec (.ref c) qual := x.1
/-- the table is empty, or holds that lambda's code -/
def TabSt (H : Hp) (pos : Pos) (qual : Str) (ps : Array Value) : Prop := ps = #[] ∨ ∃ c, ps = #[rawInt pos.line, rawInt pos.col, .ref c] ∧ H c = some (codeX c qual)
/-- the builtins' module, as the base has it -/
def BMain (mg : Str → Option Value) (base : Heap) : Prop := ∃ bm ob, mg "__builtins__" = some (.ref bm) ∧ bm ≠ builtinsNs ∧ base.get? bm = some ob ∧ ob.cls = .type "module" ∧ ob.dict = some builtinsNs ∧ ob.data = .plain
section
variable {X : Cx} {pins : List (Addr × Obj)} {σ : St} {A : Around} {E : Value → Shared → Prop}
/-- all but the table stand as they stood -/
def SameT (P : Addr) (H H' : Hp) : Prop := ∀ b o, H b = some o → b ≠ P → H' b = some o
theorem Same.toT {P : Addr} {H H' : Hp} (s : Same H H') : SameT P H H' := fun b o e _ => s b o e
theorem SameT.trans {P : Addr} {H H1 H2 : Hp} (a : SameT P H H1) (b : SameT P H1 H2) : SameT P H H2 := fun c o e n => b c o (a c o e n) n
theorem SameT.free {P : Addr} {H H' : Hp} (a : SameT P H H') {c : Addr} (h : H' c = none) (n : c ≠ P) : H c = none := by
  cases e : H c with
  | none => rfl
  | some o => rw [a c o e n] at h; cases h
theorem make_lam {s : Shared} {H : Hp} {P c cc : Addr} {ps : Array Value} {params : Arguments} {body : Expr} {scope : Scope} {pos : Pos} {y : Str} {Q : Value → Shared → Prop} (I : Inv X pins σ H s) (hcode : X.env.code = .ref c) (C : PySem.W.codeHdIn X.K c P = true) (hP : H P = some (.tbl ps))
    (ts : TabSt H pos (X.env.qual ++ "<lambda>") ps) (bm : BMain X.mg X.base) (hfree : ∀ z ∈ scope.names, z.2 = .free → ∃ b, X.env.cells.lookup z.1 = some b) (hcl : cloFrom X.env.cells scope.names [] = [(y, cc)]) (hdef : defaultsOf params X.env = ([], []))
    (k : ∀ (f c' : Addr) (ctv pm : Value) (H' : Hp) (s' : Shared) (ps' : Array Value), Inv X pins σ H' s' → SameT P H H' → H' P = some (.tbl ps') → TabSt H' pos (X.env.qual ++ "<lambda>") ps' → H f = none →
      H' f = some (isO f (PySem.W.kla_obj "<lambda>" (X.env.qual ++ "<lambda>") params body scope [(y, cc)] pm c' ctv)) → H' c' = some (codeX c' (X.env.qual ++ "<lambda>")) → Q (.ref f) s') :
    wpAny (model X.prog X.w) A (eval (.Lambda params body scope pos) X.env) Q E s := by
  have hg : s.heap.Ns mainGlobals X.mg := I.mod.glob.keeps I.bk
  have CH : PySem.W.CodeHd s.heap c P := PySem.W.codeHd_of_K I.kIn C
  have oP : s.heap.get? P = some (PySem.W.tabObj ps) := I.hok P _ hP
  have hcl2 : closureFor scope X.env = pure [(y, cc)] := by rw [closure_ok hfree, hcl]
  have hgP : mainGlobals ≠ P := fun z => by
    obtain ⟨o, es, ep, e, hd, _⟩ := hg
    rw [z, oP] at e; cases e; cases hd
  obtain ⟨b1, ob, q1, q2, q3, q4, q5, q6⟩ := bm
  have hB : s.heap.BuiltinsAt X.mg P := by
    refine ⟨b1, ob, q1, q2, fun z => ?_, fun z => ?_, I.bk _ _ q3, q4, q5, q6⟩
    · obtain ⟨o, es, ep, e, hd, _⟩ := hg
      rw [← z, I.bk _ _ q3] at e; cases e; rw [q6] at hd; cases hd
    · have := (I.bs _ _ q3).2
      rw [z, hP] at this; cases this
  refine PySem.W.kla_eval hdef ?_
  rcases ts with rfl | ⟨c', rfl, hc'⟩
  · refine PySem.W.kla_makeFunction (mg := X.mg) hcl2 I.ok.glob hg hcode CH oP trivial rfl hgP hB fun c' ctv h' tk hx hge hlt hrec htb => ?_
    have eps : (#[] ++ #[rawInt pos.line, rawInt pos.col, Value.ref c'] : Array Value) = #[rawInt pos.line, rawInt pos.col, Value.ref c'] := by simp
    rw [eps] at htb
    generalize hfo : PySem.W.kla_obj "<lambda>" (X.env.qual ++ "<lambda>") params body scope [(y, cc)] ((X.mg "__name__").getD .none) c' ctv = fo
    have ff : fo.isFreed = false := by rw [← hfo]; rfl
    have nt : ∀ b, H b = none → b ≠ P := fun b n z => by rw [z, hP] at n; cases n
    have nP : ∀ b o, s.heap.get? b = some o → b ≠ P → (h'.push fo).get? b = some o := fun b o e n => Heap.get?_push_of_some _ (hx b o n e)
    have Plt : P < s.heap.objs.size := Heap.lt_size oP
    have c'n : H c' = none := I.hok.fresh hge
    have fge : s.heap.objs.size ≤ h'.objs.size := Nat.le_of_lt (Nat.lt_of_le_of_lt hge hlt)
    have fn : H h'.objs.size = none := I.hok.fresh fge
    have c'f : c' ≠ h'.objs.size := Nat.ne_of_lt hlt
    have c'P : c' ≠ P := fun z => by rw [z, hP] at c'n; cases c'n
    have fP : h'.objs.size ≠ P := fun z => by rw [z, hP] at fn; cases fn
    let H2 : Hp := upd (upd (upd H P (.tbl #[rawInt pos.line, rawInt pos.col, .ref c'])) c' (codeX c' (X.env.qual ++ "<lambda>"))) h'.objs.size (isO h'.objs.size fo)
    have old : ∀ b, b ≠ P → b ≠ c' → b ≠ h'.objs.size → H2 b = H b := fun b n1 n2 n3 => by show upd (upd (upd H P _) c' _) _ _ b = _; rw [upd_ne n3, upd_ne n2, upd_ne n1]
    have lt2 : ∀ b o, s.heap.get? b = some o → b ≠ c' ∧ b ≠ h'.objs.size := fun b o e => ⟨Nat.ne_of_lt (Nat.lt_of_lt_of_le (Heap.lt_size e) hge), Nat.ne_of_lt (Nat.lt_of_lt_of_le (Heap.lt_size e) fge)⟩
    have tr : ∀ b u, H b = some u → b ≠ c' ∧ b ≠ h'.objs.size := fun b u e => ⟨ne_of_none e c'n, ne_of_none e fn⟩
    have un : Un X.fs [] H H2 s.heap (h'.push fo) := by
      refine ⟨fun b o e n _ _ => nP b o e (nt b n), fun b o e n _ _ => ⟨o.slots, nP b o e (nt b n)⟩, fun b o e n _ => ?_, fun b o e _ => ?_, fun b xs e => ?_, fun b o u e => ?_, fun b ps e => ?_⟩
      · rw [old b (nt b n) (lt2 b o e).1 (lt2 b o e).2]; exact n
      · by_cases z : b = P
        · rw [z]; exact ⟨_, Heap.get?_push_of_some _ htb⟩
        · exact ⟨o, nP b o e z⟩
      · rw [old b (ne_of e hP (by intro z; cases z)) (tr b _ e).1 (tr b _ e).2]; exact e
      · rw [old b (ne_of e hP (by intro z; cases z)) (tr b _ e).1 (tr b _ e).2]; exact e
      · by_cases z : b = P
        · subst z
          rw [hP] at e
          cases e
          refine ⟨#[rawInt pos.line, rawInt pos.col, .ref c'], ?_⟩
          show upd (upd (upd H b _) c' _) _ _ b = _
          rw [upd_ne fP.symm, upd_ne c'P.symm, upd_same]
          simp
        · refine ⟨#[], ?_⟩
          rw [old b z (tr b _ e).1 (tr b _ e).2, e]; simp
    have hok : HOk X.prog X.w H2 (h'.push fo) := by
      intro b u e
      by_cases z1 : b = h'.objs.size
      · subst z1
        rw [show H2 h'.objs.size = some (isO h'.objs.size fo) from upd_same] at e
        cases e
        exact isO_ok (Heap.get?_push_size _ ff)
      by_cases z2 : b = c'
      · subst z2
        rw [show H2 b = some (codeX b (X.env.qual ++ "<lambda>")) from by show upd (upd (upd H P _) b _) _ _ b = _; rw [upd_ne c'f, upd_same]] at e
        cases e
        exact codeX_ok (hrec.push _)
      by_cases z3 : b = P
      · subst z3
        rw [show H2 b = some (.tbl #[rawInt pos.line, rawInt pos.col, .ref c']) from by show upd (upd (upd H b _) c' _) _ _ b = _; rw [upd_ne z1, upd_ne z2, upd_same]] at e
        cases e
        exact Heap.get?_push_of_some _ htb
      · rw [old b z3 z2 z1] at e
        refine (I.hok b u e).stay (fun b' v hb' q => nP b' v q fun z => ?_) (fun b' q => ?_) (fun b' xs q => ?_)
        · rcases hb' with y | y
          · exact z3 (y.symm.trans z)
          · rw [z, hP] at y; cases y
        · rw [old b' (ne_of q hP (by intro z; cases z)) (tr b' _ q).1 (tr b' _ q).2]; exact q
        · rw [old b' (ne_of q hP (by intro z; cases z)) (tr b' _ q).1 (tr b' _ q).2]; exact q
    have cx : H2 c' = some (codeX c' (X.env.qual ++ "<lambda>")) := by show upd (upd (upd H P _) c' _) _ _ c' = _; rw [upd_ne c'f, upd_same]
    refine k h'.objs.size c' ctv ((X.mg "__name__").getD .none) H2 _ #[rawInt pos.line, rawInt pos.col, .ref c'] (I.un (t' := tk) un hok) (fun b o e n => by rw [old b n (tr b _ e).1 (tr b _ e).2]; exact e) ?_ (.inr ⟨c', rfl, cx⟩) fn ?_ cx
    · show upd (upd (upd H P _) c' _) _ _ P = _
      rw [upd_ne fP.symm, upd_ne c'P.symm, upd_same]
    · rw [hfo]; exact upd_same
  · refine PySem.W.kla_makeFunctionHit (mg := X.mg) (cv := .ref c') hcl2 I.ok.glob hg hcode CH oP (show TriplesOk [rawInt pos.line, rawInt pos.col, Value.ref c'] from trivial) (codeAmong_snoc [] trivial rfl) hB fun ctv h' tk hx hge => ?_
    have fn : H h'.objs.size = none := I.hok.fresh hge
    refine k h'.objs.size c' ctv ((X.mg "__name__").getD .none) _ _ _ (I.laid (t' := tk) (fun b u e => Heap.get?_push_of_some _ (hx b u e)) hge (isO_ok (Heap.get?_push_size _ rfl))) (fun b o e n => by rw [upd_ne (ne_of_none e fn)]; exact e)
      (by rw [upd_ne (ne_of_none hP fn)]; exact hP) (.inr ⟨c', rfl, by rw [upd_ne (ne_of_none hc' fn)]; exact hc'⟩) fn upd_same (by rw [upd_ne (ne_of_none hc' fn)]; exact hc')
end
end L2
theorem boot_sortedB : PySem.bootBuiltins "sorted" = some (.builtin "sorted") := by decide +kernel
namespace L2
open PySem PySem.Spec PyProof.Rows
/-- sorted(e, key=lambda x: body), y (in slot j) read from around; Pt: the table of the def's code -/
def tSortL (K : PySem.W.Frag) (Pt : Addr) (qual : Str) (pos : Pos) (j : Nat) (tb : TE) (ta : TA) : TE := fun σ H Q => ta σ H fun vs H1 => ∃ (a : Addr) (ns : List Int) (key : Int → List Int) (ps : Array Value) (wv : V),
  vs = [.ref a] ∧ SqL K H1 a (ns.map V.int) ∧ ns.length ≤ 1000 ∧ (∀ n ∈ ns, ∃ k ks, key n = k :: ks) ∧ σ[j]? = some (some wv) ∧ H1 Pt = some (.tbl ps) ∧ TabSt H1 pos qual ps ∧
  (∀ n ∈ ns, ∀ H2 : Hp, SameT Pt H1 H2 → tb [some (.int n), some wv] H2 (KeyOut H2 key n)) ∧
  ∀ (H' : Hp) (ns' : List Int) (D : Addr) (ps' : Array Value), SameT Pt H1 H' → H' Pt = some (.tbl ps') → TabSt H' pos qual ps' → H1 D = none → H' D = some (.lst (ns'.map V.int)) → ns'.Perm ns → ns'.Pairwise (fun x y => leK (key x) (key y)) → Q (.ref D) H'
section
variable {X : Cx}
theorem pe_sortL {k j : Nat} {Pt c : Addr} {e : Expr} {ta : TA} {tb : TE} {x y qual : Str} {params : Arguments} {body : Expr} {scope : Scope} {p lpos kpos pos : Pos} (hg : Gl X "sorted") (hm : X.mg "sorted" = none) (ha : PA X [e] ta)
    (hcode : X.env.code = .ref c) (C : PySem.W.codeHdIn X.K c Pt = true) (bm : BMain X.mg X.base) (hqual : X.env.qual ++ "<lambda>" = qual) (hyN : X.N[j]? = some y) (hyc : X.env.scope.names.lookup y = some .cell) (S : LamScope x y scope) (hclo : ∀ cells, cloFrom cells scope.names [] = [(y, (cells.lookup y).getD 0)])
    (hdef : defaultsOf params X.env = ([], [])) (hbind : ∀ (cl : List (Str × Addr)) (pm cd ctv u : Value), bindArgs (PySem.W.kla_fn "<lambda>" qual params body scope cl pm cd ctv) ⟨[u], []⟩ = pure [(x, u)]) (hr : Room (k + 3) X.A)
    (hbody : ∀ (f : Addr) (cd : Value) (cl : List (Str × Addr)) (A : Around) (outer : List Env) (s : Shared) (H : Hp), Room k (A.deeper (lamEnv qual scope s.heap.objs.size f cd cl)) → PE (lamCx X.prog X.w X.K X.mg X.base x y qual scope f cd cl A outer s H) body tb)
    (he : backTo pos (starEach [e] X.env) = (false, eval e X.env) :: backTo pos (starEach [] X.env) := by rfl) (hpl : (backTo pos (starEach [e] X.env)).any (·.1) = false := by rfl) :
    PE X (.Call (.Name "sorted" p) [e] [⟨some "key", .Lambda params body scope lpos, kpos⟩] pos) (tSortL X.K Pt qual lpos j tb ta) := by
  intro pins s σ H Q I h
  subst hqual
  refine wpAny_Call_Name_kw (ld_blt I hg hm boot_sortedB ?_)
  refine callWith_kw (thn (ha pos pins s σ H _ I h) fun us s1 ⟨vs, H1, I1, r1, a, ns, key, ps, wv, ev, hs, hl, hkey, hw, hP, ts, kb, kq⟩ => ?_) he hpl
  subst ev
  rw [Vals.ref1 r1]
  show wpAny _ _ (evalAll ((do let v ← eval (.Lambda params body scope lpos) X.env; standAt pos; pure v) :: [])) _ _ s1
  obtain ⟨cc, hcc⟩ := I.ok.has y (.inl hyc)
  refine wpAny_evalAll_cons (wpAny_bind (make_lam (y := y) (cc := cc) I1 hcode C hP ts bm (fun z hz ez => ?_) (by rw [hclo, hcc]; rfl) hdef fun f c' ctv pm H2 s2 ps2 I2 sm hP2 ts2 fn hf hc' => wpAny_bind (wpAny_standAt (wpAny_pure (wpAny_evalAll_nil ?_)))))
  · rw [S.only z hz ez]; exact ⟨cc, hcc⟩
  show wpAny (model X.prog X.w) X.A (call (.builtin "sorted") [.ref a] [(Str.ofString "key", .ref f)]) (EP X pins σ Q) X.xe s2
  have hs2 : SqL X.K H2 a (ns.map V.int) := by
    rcases hs with (q | ⟨o, q⟩) | q
    · exact .inl (.inl (sm _ _ q (ne_of q hP (by intro z; cases z))))
    · exact .inl (.inr ⟨o, sm _ _ q (ne_of q hP (by intro z; cases z))⟩)
    · exact .inr q
  refine run_sortKey (key := key) I2 hs2 hl hkey (fun n u H3 s3 hn ru I3 s23 => ?_) (fun H3 ns' D s23 hD hD3 pm' pw => ?_)
  · have hroom : Room (k + 1) X.A.in1.in1 := (Room.in1 (k := k + 2) hr).in1
    obtain ⟨m, hnm, hloc⟩ := I3.loc
    obtain ⟨wu, rw_, lk⟩ := hloc j y wv hyN hw (.inr (.inl hyc))
    have hcell : s3.heap.IsCell cc (some wu) := by
      rcases lk with ⟨z, _⟩ | ⟨_, c2, e2, z⟩
      · have z : X.env.scope.names.lookup y = some .local := z
        rw [hyc] at z; cases z
      · rw [hcc] at e2; cases e2; exact z
    have hf3 : s3.heap.get? f = some _ := isO_get (I3.hok f _ (s23 _ _ hf))
    have hc3 := codeX_get (I3.hok c' _ (s23 _ _ hc'))
    refine wpAny_mono (lam_run (x := x) hroom I3.env0.in1.in1 hf3 hc3 (hbind _ _ _ _ _) S hcell (I3.freeC y cc hcc) ru rw_ (hbody f (.ref c') [(y, cc)] X.A.in1.in1 X.stack s3 H3 (hroom.deeper _)) (kb n hn H3 fun b o e nb => s23 _ _ (sm b o e nb))) (fun r s4 hce => I3.after hce) fun _ _ z => z
  · refine kq H3 ns' D ps2 (fun b o e nb => s23 _ _ (sm b o e nb)) (s23 _ _ hP2) ?_ (sm.free hD fun z => by rw [z, hP2] at hD; cases hD) hD3 pm' pw
    rcases ts2 with z | ⟨c2, z, q⟩
    · exact .inl z
    · exact .inr ⟨c2, z, s23 _ _ q⟩
end
end L2
namespace B
open PySem PySem.Spec PyProof.Rows L2
def codeV (K : PySem.W.Frag) : Value → Addr → Bool
  | .ref c, P => PySem.W.codeHdIn K c P
  | _, _ => false
theorem codeV_of {K : PySem.W.Frag} {v : Value} {P : Addr} (h : codeV K v P = true) : ∃ c, v = .ref c ∧ PySem.W.codeHdIn K c P = true := by
  cases v with
  | ref c => exact ⟨c, rfl, h⟩
  | _ => cases h
def top (i : Nat) : Stmt := PySem.Challenge.pw_bladesets_s01_answers.main.body.getD i (.Pass ⟨0, 0, 0, 0⟩)
abbrev s_units_needed : Stmt := top 1
theorem sc_units_needed : FnScope ["pulls", "unit", "greatest", "pull"] ["pulls", "unit"] (defScope s_units_needed) := ⟨rfl, rfl, rfl, by decide +kernel, rfl, by decide +kernel, by decide +kernel⟩
abbrev s_shortfall : Stmt := top 2
theorem sc_shortfall : FnScope ["pulls", "greatest", "pull"] ["pulls"] (defScope s_shortfall) := ⟨rfl, rfl, rfl, by decide +kernel, rfl, by decide +kernel, by decide +kernel⟩
abbrev s_how_far_off : Stmt := top 3
theorem sc_how_far_off : FnScope ["pulls", "a", "b", "c"] ["pulls"] (defScope s_how_far_off) := ⟨rfl, rfl, rfl, by decide +kernel, rfl, by decide +kernel, by decide +kernel⟩
abbrev s_is_moment : Stmt := top 20
theorem sc_is_moment : FnScope ["moment"] ["moment"] (defScope s_is_moment) := ⟨rfl, rfl, rfl, by decide +kernel, rfl, by decide +kernel, by decide +kernel⟩
abbrev s_reply_start : Stmt := top 21
theorem sc_reply_start : FnScope ["works", "numbers", "most", "unit"] ["works", "numbers"] (defScope s_reply_start) := ⟨rfl, rfl, rfl, by decide +kernel, rfl, by decide +kernel, by decide +kernel⟩
abbrev s_reply_blade : Stmt := top 22
theorem sc_reply_blade : FnScope ["works", "numbers", "kind", "moment"] ["works", "numbers"] (defScope s_reply_blade) := ⟨rfl, rfl, rfl, by decide +kernel, rfl, by decide +kernel, by decide +kernel⟩
abbrev s_refusal_unless_free : Stmt := top 23
theorem sc_refusal_unless_free : FnScope ["works", "i"] ["works", "i"] (defScope s_refusal_unless_free) := ⟨rfl, rfl, rfl, by decide +kernel, rfl, by decide +kernel, by decide +kernel⟩
abbrev s_reply_weigh : Stmt := top 24
theorem sc_reply_weigh : FnScope ["works", "numbers", "i", "moment", "refusal", "blade", "pulled"] ["works", "numbers"] (defScope s_reply_weigh) := ⟨rfl, rfl, rfl, by decide +kernel, rfl, by decide +kernel, by decide +kernel⟩
abbrev s_reply_scrap : Stmt := top 25
theorem sc_reply_scrap : FnScope ["works", "numbers", "i", "refusal", "blade"] ["works", "numbers"] (defScope s_reply_scrap) := ⟨rfl, rfl, rfl, by decide +kernel, rfl, by decide +kernel, by decide +kernel⟩
abbrev s_reply_add : Stmt := top 26
theorem sc_reply_add : FnScope ["works", "numbers", "i", "n", "blade"] ["works", "numbers"] (defScope s_reply_add) := ⟨rfl, rfl, rfl, by decide +kernel, rfl, by decide +kernel, by decide +kernel⟩
abbrev s_reply_look : Stmt := top 27
theorem sc_reply_look : FnScope ["works", "numbers", "i", "blade"] ["works", "numbers"] (defScope s_reply_look) := ⟨rfl, rfl, rfl, by decide +kernel, rfl, by decide +kernel, by decide +kernel⟩
abbrev s_refusal_unless_several : Stmt := top 28
theorem sc_refusal_unless_several : FnScope ["works", "numbers"] ["works", "numbers"] (defScope s_refusal_unless_several) := ⟨rfl, rfl, rfl, by decide +kernel, rfl, by decide +kernel, by decide +kernel⟩
abbrev s_reply_needs : Stmt := top 29
theorem sc_reply_needs : FnScope ["works", "numbers", "refusal", "units"] ["works", "numbers"] (defScope s_reply_needs) := ⟨rfl, rfl, rfl, by decide +kernel, rfl, by decide +kernel, by decide +kernel⟩
abbrev s_reply_off : Stmt := top 30
theorem sc_reply_off : FnScope ["works", "numbers", "refusal"] ["works", "numbers"] (defScope s_reply_off) := ⟨rfl, rfl, rfl, by decide +kernel, rfl, by decide +kernel, by decide +kernel⟩
abbrev s_reply_match : Stmt := top 31
theorem sc_reply_match : FnScope ["works", "numbers", "refusal"] ["works", "numbers"] (defScope s_reply_match) := ⟨rfl, rfl, rfl, by decide +kernel, rfl, by decide +kernel, by decide +kernel⟩
abbrev s_reply_set : Stmt := top 32
theorem sc_reply_set : FnScope ["works", "numbers", "s", "trio"] ["works", "numbers"] (defScope s_reply_set) := ⟨rfl, rfl, rfl, by decide +kernel, rfl, by decide +kernel, by decide +kernel⟩
abbrev s_reply_part : Stmt := top 33
theorem sc_reply_part : FnScope ["works", "numbers", "s", "trio"] ["works", "numbers"] (defScope s_reply_part) := ⟨rfl, rfl, rfl, by decide +kernel, rfl, by decide +kernel, by decide +kernel⟩
abbrev s_best_beside : Stmt := top 34
theorem sc_best_beside : FnScope ["works", "pair", "kind", "others", "x", "units", "fewest"] ["works", "pair"] (defScope s_best_beside) := ⟨rfl, rfl, rfl, by decide +kernel, rfl, by decide +kernel, by decide +kernel⟩
abbrev s_reply_third : Stmt := top 35
theorem sc_reply_third : FnScope ["works", "numbers", "refusal"] ["works", "numbers"] (defScope s_reply_third) := ⟨rfl, rfl, rfl, by decide +kernel, rfl, by decide +kernel, by decide +kernel⟩
abbrev s_reply_spare : Stmt := top 36
theorem sc_reply_spare : FnScope ["works", "numbers", "s", "i", "j"] ["works", "numbers"] (defScope s_reply_spare) := ⟨rfl, rfl, rfl, by decide +kernel, rfl, by decide +kernel, by decide +kernel⟩
abbrev s_reply_exchange : Stmt := top 37
theorem sc_reply_exchange : FnScope ["works", "numbers", "s", "i", "x", "trio", "changed", "j"] ["works", "numbers"] (defScope s_reply_exchange) := ⟨rfl, rfl, rfl, by decide +kernel, rfl, by decide +kernel, by decide +kernel⟩
abbrev s_reply_balanced : Stmt := top 38
theorem sc_reply_balanced : FnScope ["works", "numbers", "s", "trio"] ["works", "numbers"] (defScope s_reply_balanced) := ⟨rfl, rfl, rfl, by decide +kernel, rfl, by decide +kernel, by decide +kernel⟩
abbrev s_reply_ship : Stmt := top 39
theorem sc_reply_ship : FnScope ["works", "numbers", "s", "trio"] ["works", "numbers"] (defScope s_reply_ship) := ⟨rfl, rfl, rfl, by decide +kernel, rfl, by decide +kernel, by decide +kernel⟩
abbrev s_reply_plan : Stmt := top 40
theorem sc_reply_plan : FnScope ["works", "numbers", "kind", "plan", "reply", "trio"] ["works", "numbers"] (defScope s_reply_plan) := ⟨rfl, rfl, rfl, by decide +kernel, rfl, by decide +kernel, by decide +kernel⟩
abbrev s_reply_least : Stmt := top 41
theorem sc_reply_least : FnScope ["works", "numbers", "kind", "trio"] ["works", "numbers"] (defScope s_reply_least) := ⟨rfl, rfl, rfl, by decide +kernel, rfl, by decide +kernel, by decide +kernel⟩
abbrev s_reply_follow : Stmt := top 42
theorem sc_reply_follow : FnScope ["works", "numbers", "kind", "plan", "trio"] ["works", "numbers"] (defScope s_reply_follow) := ⟨rfl, rfl, rfl, by decide +kernel, rfl, by decide +kernel, by decide +kernel⟩
abbrev s_reply_free : Stmt := top 43
theorem sc_reply_free : FnScope ["works", "numbers", "kind", "free"] ["works", "numbers"] (defScope s_reply_free) := ⟨rfl, rfl, rfl, by decide +kernel, rfl, by decide +kernel, by decide +kernel⟩
abbrev s_reply_sums : Stmt := top 44
theorem sc_reply_sums : FnScope ["works", "numbers", "moments", "blade"] ["works", "numbers"] (defScope s_reply_sums) := ⟨rfl, rfl, rfl, by decide +kernel, rfl, by decide +kernel, by decide +kernel⟩
abbrev s_reply_state : Stmt := top 45
theorem sc_reply_state : FnScope ["works", "numbers", "gone", "blade"] ["works", "numbers"] (defScope s_reply_state) := ⟨rfl, rfl, rfl, by decide +kernel, rfl, by decide +kernel, by decide +kernel⟩
abbrev s_reply_to : Stmt := top 47
theorem sc_reply_to : FnScope ["works", "call", "numbers"] ["works", "call", "numbers"] (defScope s_reply_to) := ⟨rfl, rfl, rfl, by decide +kernel, rfl, by decide +kernel, by decide +kernel⟩
abbrev s_Blade_init : Stmt := inClass (top 49) 0
theorem sc_Blade_init : FnScope ["self", "kind", "moment"] ["self", "kind", "moment"] (defScope s_Blade_init) := ⟨rfl, rfl, rfl, by decide +kernel, rfl, by decide +kernel, by decide +kernel⟩
abbrev s_Blade_pull : Stmt := inClass (top 49) 1
theorem sc_Blade_pull : FnScope ["self"] ["self"] (defScope s_Blade_pull) := ⟨rfl, rfl, rfl, by decide +kernel, rfl, by decide +kernel, by decide +kernel⟩
abbrev s_Blade_is_free : Stmt := inClass (top 49) 2
theorem sc_Blade_is_free : FnScope ["self"] ["self"] (defScope s_Blade_is_free) := ⟨rfl, rfl, rfl, by decide +kernel, rfl, by decide +kernel, by decide +kernel⟩
abbrev s_Blade_weigh_anew : Stmt := inClass (top 49) 3
theorem sc_Blade_weigh_anew : FnScope ["self", "moment"] ["self", "moment"] (defScope s_Blade_weigh_anew) := ⟨rfl, rfl, rfl, by decide +kernel, rfl, by decide +kernel, by decide +kernel⟩
abbrev s_Works_init : Stmt := inClass (top 50) 0
theorem sc_Works_init : FnScope ["self"] ["self"] (defScope s_Works_init) := ⟨rfl, rfl, rfl, by decide +kernel, rfl, by decide +kernel, by decide +kernel⟩
abbrev s_Works_begin : Stmt := inClass (top 50) 1
theorem sc_Works_begin : FnScope ["self", "most", "unit"] ["self", "most", "unit"] (defScope s_Works_begin) := ⟨rfl, rfl, rfl, by decide +kernel, rfl, by decide +kernel, by decide +kernel⟩
abbrev s_Works_take_in : Stmt := inClass (top 50) 2
theorem sc_Works_take_in : FnScope ["self", "kind", "moment"] ["self", "kind", "moment"] (defScope s_Works_take_in) := ⟨rfl, rfl, rfl, by decide +kernel, rfl, by decide +kernel, by decide +kernel⟩
abbrev s_Works_has_blades : Stmt := inClass (top 50) 3
theorem sc_Works_has_blades : FnScope ["self", "numbers"] ["self", "numbers"] (defScope s_Works_has_blades) := ⟨rfl, rfl, rfl, by decide +kernel, rfl, by decide +kernel, by decide +kernel⟩
abbrev s_Works_of_one_kind : Stmt := inClass (top 50) 4
theorem sc_Works_of_one_kind : FnScope ["self", "numbers", "kind", "i"] ["self", "numbers"] (defScope s_Works_of_one_kind) := ⟨rfl, rfl, rfl, by decide +kernel, rfl, by decide +kernel, by decide +kernel⟩
abbrev s_Works_all_free : Stmt := inClass (top 50) 5
theorem sc_Works_all_free : FnScope ["self", "numbers", "i"] ["self", "numbers"] (defScope s_Works_all_free) := ⟨rfl, rfl, rfl, by decide +kernel, rfl, by decide +kernel, by decide +kernel⟩
abbrev s_Works_free_of_kind : Stmt := inClass (top 50) 6
theorem sc_Works_free_of_kind : FnScope ["self", "kind", "i", "blade"] ["self", "kind"] (defScope s_Works_free_of_kind) := ⟨rfl, rfl, rfl, by decide +kernel, rfl, by decide +kernel, by decide +kernel⟩
abbrev s_Works_pulls : Stmt := inClass (top 50) 7
theorem sc_Works_pulls : FnScope ["self", "numbers", "i"] ["self", "numbers"] (defScope s_Works_pulls) := ⟨rfl, rfl, rfl, by decide +kernel, rfl, by decide +kernel, by decide +kernel⟩
abbrev s_Works_units_for : Stmt := inClass (top 50) 8
theorem sc_Works_units_for : FnScope ["self", "numbers"] ["self", "numbers"] (defScope s_Works_units_for) := ⟨rfl, rfl, rfl, by decide +kernel, rfl, by decide +kernel, by decide +kernel⟩
abbrev s_Works_may_be_set : Stmt := inClass (top 50) 9
theorem sc_Works_may_be_set : FnScope ["self", "numbers"] ["self", "numbers"] (defScope s_Works_may_be_set) := ⟨rfl, rfl, rfl, by decide +kernel, rfl, by decide +kernel, by decide +kernel⟩
abbrev s_Works_needs_nothing : Stmt := inClass (top 50) 10
theorem sc_Works_needs_nothing : FnScope ["self", "numbers"] ["self", "numbers"] (defScope s_Works_needs_nothing) := ⟨rfl, rfl, rfl, by decide +kernel, rfl, by decide +kernel, by decide +kernel⟩
abbrev s_Works_even_out : Stmt := inClass (top 50) 11
theorem sc_Works_even_out : FnScope ["self", "numbers", "i", "units", "blade"] ["self", "numbers"] (defScope s_Works_even_out) := ⟨rfl, rfl, rfl, by decide +kernel, rfl, by decide +kernel, by decide +kernel⟩
abbrev s_Works_bind : Stmt := inClass (top 50) 12
theorem sc_Works_bind : FnScope ["self", "numbers", "s"] ["self", "numbers"] (defScope s_Works_bind) := ⟨rfl, rfl, rfl, by decide +kernel, rfl, by decide +kernel, by decide +kernel⟩
abbrev s_Works_bind_as : Stmt := inClass (top 50) 13
theorem sc_Works_bind_as : FnScope ["self", "s", "numbers", "i", "blade"] ["self", "s", "numbers"] (defScope s_Works_bind_as) := ⟨rfl, rfl, rfl, by decide +kernel, rfl, by decide +kernel, by decide +kernel⟩
abbrev s_Works_least_free_number : Stmt := inClass (top 50) 14
theorem sc_Works_least_free_number : FnScope ["self", "s"] ["self"] (defScope s_Works_least_free_number) := ⟨rfl, rfl, rfl, by decide +kernel, rfl, by decide +kernel, by decide +kernel⟩
abbrev s_Works_unbind : Stmt := inClass (top 50) 15
theorem sc_Works_unbind : FnScope ["self", "s", "trio", "i", "blade"] ["self", "s"] (defScope s_Works_unbind) := ⟨rfl, rfl, rfl, by decide +kernel, rfl, by decide +kernel, by decide +kernel⟩
abbrev s_Works_rebind : Stmt := inClass (top 50) 16
theorem sc_Works_rebind : FnScope ["self", "s", "numbers"] ["self", "s", "numbers"] (defScope s_Works_rebind) := ⟨rfl, rfl, rfl, by decide +kernel, rfl, by decide +kernel, by decide +kernel⟩
abbrev s_Works_send_off : Stmt := inClass (top 50) 17
theorem sc_Works_send_off : FnScope ["self", "s", "trio", "i", "blade"] ["self", "s"] (defScope s_Works_send_off) := ⟨rfl, rfl, rfl, by decide +kernel, rfl, by decide +kernel, by decide +kernel⟩
abbrev s_Works_plan : Stmt := inClass (top 50) 18
theorem sc_Works_plan : FnScope ["self", "kind", "ranked", "at"] ["self", "kind"] (defScope s_Works_plan) := ⟨rfl, rfl, rfl, by decide +kernel, rfl, by decide +kernel, by decide +kernel⟩
abbrev s_answers : Stmt := top 52
theorem sc_answers : FnScope ["calls", "works", "given", "at", "behind", "reply"] ["calls"] (defScope s_answers) := ⟨rfl, rfl, rfl, by decide +kernel, rfl, by decide +kernel, by decide +kernel⟩
set_option genInjectivity false in set_option genSizeOfSpec false in structure Txt (K : PySem.W.Frag) (mg : Str → Option Value) : Type where
  C_Blade : Addr
  C_Works : Addr
  f_units_needed : Addr
  fd_units_needed : FuncData
  f_shortfall : Addr
  fd_shortfall : FuncData
  f_how_far_off : Addr
  fd_how_far_off : FuncData
  f_is_moment : Addr
  fd_is_moment : FuncData
  f_reply_start : Addr
  fd_reply_start : FuncData
  f_reply_blade : Addr
  fd_reply_blade : FuncData
  f_refusal_unless_free : Addr
  fd_refusal_unless_free : FuncData
  f_reply_weigh : Addr
  fd_reply_weigh : FuncData
  f_reply_scrap : Addr
  fd_reply_scrap : FuncData
  f_reply_add : Addr
  fd_reply_add : FuncData
  f_reply_look : Addr
  fd_reply_look : FuncData
  f_refusal_unless_several : Addr
  fd_refusal_unless_several : FuncData
  f_reply_needs : Addr
  fd_reply_needs : FuncData
  f_reply_off : Addr
  fd_reply_off : FuncData
  f_reply_match : Addr
  fd_reply_match : FuncData
  f_reply_set : Addr
  fd_reply_set : FuncData
  f_reply_part : Addr
  fd_reply_part : FuncData
  f_best_beside : Addr
  fd_best_beside : FuncData
  f_reply_third : Addr
  fd_reply_third : FuncData
  f_reply_spare : Addr
  fd_reply_spare : FuncData
  f_reply_exchange : Addr
  fd_reply_exchange : FuncData
  f_reply_balanced : Addr
  fd_reply_balanced : FuncData
  f_reply_ship : Addr
  fd_reply_ship : FuncData
  f_reply_plan : Addr
  fd_reply_plan : FuncData
  f_reply_least : Addr
  fd_reply_least : FuncData
  f_reply_follow : Addr
  fd_reply_follow : FuncData
  f_reply_free : Addr
  fd_reply_free : FuncData
  f_reply_sums : Addr
  fd_reply_sums : FuncData
  f_reply_state : Addr
  fd_reply_state : FuncData
  f_reply_to : Addr
  fd_reply_to : FuncData
  f_Blade_init : Addr
  fd_Blade_init : FuncData
  f_Blade_pull : Addr
  fd_Blade_pull : FuncData
  f_Blade_is_free : Addr
  fd_Blade_is_free : FuncData
  f_Blade_weigh_anew : Addr
  fd_Blade_weigh_anew : FuncData
  f_Works_init : Addr
  fd_Works_init : FuncData
  f_Works_begin : Addr
  fd_Works_begin : FuncData
  f_Works_take_in : Addr
  fd_Works_take_in : FuncData
  f_Works_has_blades : Addr
  fd_Works_has_blades : FuncData
  f_Works_of_one_kind : Addr
  fd_Works_of_one_kind : FuncData
  f_Works_all_free : Addr
  fd_Works_all_free : FuncData
  f_Works_free_of_kind : Addr
  fd_Works_free_of_kind : FuncData
  f_Works_pulls : Addr
  fd_Works_pulls : FuncData
  f_Works_units_for : Addr
  fd_Works_units_for : FuncData
  f_Works_may_be_set : Addr
  fd_Works_may_be_set : FuncData
  f_Works_needs_nothing : Addr
  fd_Works_needs_nothing : FuncData
  f_Works_even_out : Addr
  fd_Works_even_out : FuncData
  f_Works_bind : Addr
  fd_Works_bind : FuncData
  f_Works_bind_as : Addr
  fd_Works_bind_as : FuncData
  f_Works_least_free_number : Addr
  fd_Works_least_free_number : FuncData
  f_Works_unbind : Addr
  fd_Works_unbind : FuncData
  f_Works_rebind : Addr
  fd_Works_rebind : FuncData
  f_Works_send_off : Addr
  fd_Works_send_off : FuncData
  f_Works_plan : Addr
  fd_Works_plan : FuncData
  f_answers : Addr
  fd_answers : FuncData
  P_Works_plan : Addr
  cd_Works_plan : ∃ c, fd_Works_plan.code = .ref c ∧ PySem.W.codeHdIn K c P_Works_plan = true
  t_NO_SUCH : Tok
  t_NOT_STARTED : Tok
  t_NOT_EVEN : Tok
  t_NOT_FREE : Tok
  t_WRONG : Tok
  t_FULL : Tok
  t_NONE_LEFT : Tok
  t_TOO_MUCH : Tok
  t_GREATEST_MOST : Tok
  t_GREATEST_UNIT : Tok
  t_GREATEST_KIND : Tok
  t_GREATEST_MOMENT : Tok
  t_BLADES_AT_MOST : Tok
  t_START : Tok
  a_COUNTS : Addr
  a_REPLIES : Addr
  cl_Blade : Cls K C_Blade
  mg_Blade : mg "Blade" = some (.ref C_Blade)
  mk_Blade : Mk K C_Blade f_Blade_init
  na_Blade_kind : NoAttr K C_Blade "kind"
  na_Blade_moment : NoAttr K C_Blade "moment"
  na_Blade_added : NoAttr K C_Blade "added"
  na_Blade_gone : NoAttr K C_Blade "gone"
  na_Blade_set_and_one : NoAttr K C_Blade "set_and_one"
  cl_Works : Cls K C_Works
  mg_Works : mg "Works" = some (.ref C_Works)
  mk_Works : Mk K C_Works f_Works_init
  na_Works_started : NoAttr K C_Works "started"
  na_Works_most : NoAttr K C_Works "most"
  na_Works_unit : NoAttr K C_Works "unit"
  na_Works_blades : NoAttr K C_Works "blades"
  na_Works_trios : NoAttr K C_Works "trios"
  F_units_needed : Fun K "units_needed" "units_needed" s_units_needed f_units_needed fd_units_needed
  b_units_needed : Binds K fd_units_needed ["pulls", "unit"] []
  mg_units_needed : mg "units_needed" = some (.ref f_units_needed)
  F_shortfall : Fun K "shortfall" "shortfall" s_shortfall f_shortfall fd_shortfall
  b_shortfall : Binds K fd_shortfall ["pulls"] []
  mg_shortfall : mg "shortfall" = some (.ref f_shortfall)
  F_how_far_off : Fun K "how_far_off" "how_far_off" s_how_far_off f_how_far_off fd_how_far_off
  b_how_far_off : Binds K fd_how_far_off ["pulls"] []
  mg_how_far_off : mg "how_far_off" = some (.ref f_how_far_off)
  F_is_moment : Fun K "is_moment" "is_moment" s_is_moment f_is_moment fd_is_moment
  b_is_moment : Binds K fd_is_moment ["moment"] []
  mg_is_moment : mg "is_moment" = some (.ref f_is_moment)
  F_reply_start : Fun K "reply_start" "reply_start" s_reply_start f_reply_start fd_reply_start
  b_reply_start : Binds K fd_reply_start ["works", "numbers"] []
  mg_reply_start : mg "reply_start" = some (.ref f_reply_start)
  F_reply_blade : Fun K "reply_blade" "reply_blade" s_reply_blade f_reply_blade fd_reply_blade
  b_reply_blade : Binds K fd_reply_blade ["works", "numbers"] []
  mg_reply_blade : mg "reply_blade" = some (.ref f_reply_blade)
  F_refusal_unless_free : Fun K "refusal_unless_free" "refusal_unless_free" s_refusal_unless_free f_refusal_unless_free fd_refusal_unless_free
  b_refusal_unless_free : Binds K fd_refusal_unless_free ["works", "i"] []
  mg_refusal_unless_free : mg "refusal_unless_free" = some (.ref f_refusal_unless_free)
  F_reply_weigh : Fun K "reply_weigh" "reply_weigh" s_reply_weigh f_reply_weigh fd_reply_weigh
  b_reply_weigh : Binds K fd_reply_weigh ["works", "numbers"] []
  mg_reply_weigh : mg "reply_weigh" = some (.ref f_reply_weigh)
  F_reply_scrap : Fun K "reply_scrap" "reply_scrap" s_reply_scrap f_reply_scrap fd_reply_scrap
  b_reply_scrap : Binds K fd_reply_scrap ["works", "numbers"] []
  mg_reply_scrap : mg "reply_scrap" = some (.ref f_reply_scrap)
  F_reply_add : Fun K "reply_add" "reply_add" s_reply_add f_reply_add fd_reply_add
  b_reply_add : Binds K fd_reply_add ["works", "numbers"] []
  mg_reply_add : mg "reply_add" = some (.ref f_reply_add)
  F_reply_look : Fun K "reply_look" "reply_look" s_reply_look f_reply_look fd_reply_look
  b_reply_look : Binds K fd_reply_look ["works", "numbers"] []
  mg_reply_look : mg "reply_look" = some (.ref f_reply_look)
  F_refusal_unless_several : Fun K "refusal_unless_several" "refusal_unless_several" s_refusal_unless_several f_refusal_unless_several fd_refusal_unless_several
  b_refusal_unless_several : Binds K fd_refusal_unless_several ["works", "numbers"] []
  mg_refusal_unless_several : mg "refusal_unless_several" = some (.ref f_refusal_unless_several)
  F_reply_needs : Fun K "reply_needs" "reply_needs" s_reply_needs f_reply_needs fd_reply_needs
  b_reply_needs : Binds K fd_reply_needs ["works", "numbers"] []
  mg_reply_needs : mg "reply_needs" = some (.ref f_reply_needs)
  F_reply_off : Fun K "reply_off" "reply_off" s_reply_off f_reply_off fd_reply_off
  b_reply_off : Binds K fd_reply_off ["works", "numbers"] []
  mg_reply_off : mg "reply_off" = some (.ref f_reply_off)
  F_reply_match : Fun K "reply_match" "reply_match" s_reply_match f_reply_match fd_reply_match
  b_reply_match : Binds K fd_reply_match ["works", "numbers"] []
  mg_reply_match : mg "reply_match" = some (.ref f_reply_match)
  F_reply_set : Fun K "reply_set" "reply_set" s_reply_set f_reply_set fd_reply_set
  b_reply_set : Binds K fd_reply_set ["works", "numbers"] []
  mg_reply_set : mg "reply_set" = some (.ref f_reply_set)
  F_reply_part : Fun K "reply_part" "reply_part" s_reply_part f_reply_part fd_reply_part
  b_reply_part : Binds K fd_reply_part ["works", "numbers"] []
  mg_reply_part : mg "reply_part" = some (.ref f_reply_part)
  F_best_beside : Fun K "best_beside" "best_beside" s_best_beside f_best_beside fd_best_beside
  b_best_beside : Binds K fd_best_beside ["works", "pair"] []
  mg_best_beside : mg "best_beside" = some (.ref f_best_beside)
  F_reply_third : Fun K "reply_third" "reply_third" s_reply_third f_reply_third fd_reply_third
  b_reply_third : Binds K fd_reply_third ["works", "numbers"] []
  mg_reply_third : mg "reply_third" = some (.ref f_reply_third)
  F_reply_spare : Fun K "reply_spare" "reply_spare" s_reply_spare f_reply_spare fd_reply_spare
  b_reply_spare : Binds K fd_reply_spare ["works", "numbers"] []
  mg_reply_spare : mg "reply_spare" = some (.ref f_reply_spare)
  F_reply_exchange : Fun K "reply_exchange" "reply_exchange" s_reply_exchange f_reply_exchange fd_reply_exchange
  b_reply_exchange : Binds K fd_reply_exchange ["works", "numbers"] []
  mg_reply_exchange : mg "reply_exchange" = some (.ref f_reply_exchange)
  F_reply_balanced : Fun K "reply_balanced" "reply_balanced" s_reply_balanced f_reply_balanced fd_reply_balanced
  b_reply_balanced : Binds K fd_reply_balanced ["works", "numbers"] []
  mg_reply_balanced : mg "reply_balanced" = some (.ref f_reply_balanced)
  F_reply_ship : Fun K "reply_ship" "reply_ship" s_reply_ship f_reply_ship fd_reply_ship
  b_reply_ship : Binds K fd_reply_ship ["works", "numbers"] []
  mg_reply_ship : mg "reply_ship" = some (.ref f_reply_ship)
  F_reply_plan : Fun K "reply_plan" "reply_plan" s_reply_plan f_reply_plan fd_reply_plan
  b_reply_plan : Binds K fd_reply_plan ["works", "numbers"] []
  mg_reply_plan : mg "reply_plan" = some (.ref f_reply_plan)
  F_reply_least : Fun K "reply_least" "reply_least" s_reply_least f_reply_least fd_reply_least
  b_reply_least : Binds K fd_reply_least ["works", "numbers"] []
  mg_reply_least : mg "reply_least" = some (.ref f_reply_least)
  F_reply_follow : Fun K "reply_follow" "reply_follow" s_reply_follow f_reply_follow fd_reply_follow
  b_reply_follow : Binds K fd_reply_follow ["works", "numbers"] []
  mg_reply_follow : mg "reply_follow" = some (.ref f_reply_follow)
  F_reply_free : Fun K "reply_free" "reply_free" s_reply_free f_reply_free fd_reply_free
  b_reply_free : Binds K fd_reply_free ["works", "numbers"] []
  mg_reply_free : mg "reply_free" = some (.ref f_reply_free)
  F_reply_sums : Fun K "reply_sums" "reply_sums" s_reply_sums f_reply_sums fd_reply_sums
  b_reply_sums : Binds K fd_reply_sums ["works", "numbers"] []
  mg_reply_sums : mg "reply_sums" = some (.ref f_reply_sums)
  F_reply_state : Fun K "reply_state" "reply_state" s_reply_state f_reply_state fd_reply_state
  b_reply_state : Binds K fd_reply_state ["works", "numbers"] []
  mg_reply_state : mg "reply_state" = some (.ref f_reply_state)
  F_reply_to : Fun K "reply_to" "reply_to" s_reply_to f_reply_to fd_reply_to
  b_reply_to : Binds K fd_reply_to ["works", "call", "numbers"] []
  mg_reply_to : mg "reply_to" = some (.ref f_reply_to)
  F_Blade_init : Fun K "__init__" "Blade.__init__" s_Blade_init f_Blade_init fd_Blade_init
  b_Blade_init : Binds K fd_Blade_init ["self", "kind", "moment"] []
  m_Blade_init : Meth K C_Blade "__init__" f_Blade_init
  F_Blade_pull : Fun K "pull" "Blade.pull" s_Blade_pull f_Blade_pull fd_Blade_pull
  b_Blade_pull : Binds K fd_Blade_pull ["self"] []
  m_Blade_pull : Meth K C_Blade "pull" f_Blade_pull
  F_Blade_is_free : Fun K "is_free" "Blade.is_free" s_Blade_is_free f_Blade_is_free fd_Blade_is_free
  b_Blade_is_free : Binds K fd_Blade_is_free ["self"] []
  m_Blade_is_free : Meth K C_Blade "is_free" f_Blade_is_free
  F_Blade_weigh_anew : Fun K "weigh_anew" "Blade.weigh_anew" s_Blade_weigh_anew f_Blade_weigh_anew fd_Blade_weigh_anew
  b_Blade_weigh_anew : Binds K fd_Blade_weigh_anew ["self", "moment"] []
  m_Blade_weigh_anew : Meth K C_Blade "weigh_anew" f_Blade_weigh_anew
  F_Works_init : Fun K "__init__" "Works.__init__" s_Works_init f_Works_init fd_Works_init
  b_Works_init : Binds K fd_Works_init ["self"] []
  m_Works_init : Meth K C_Works "__init__" f_Works_init
  F_Works_begin : Fun K "begin" "Works.begin" s_Works_begin f_Works_begin fd_Works_begin
  b_Works_begin : Binds K fd_Works_begin ["self", "most", "unit"] []
  m_Works_begin : Meth K C_Works "begin" f_Works_begin
  F_Works_take_in : Fun K "take_in" "Works.take_in" s_Works_take_in f_Works_take_in fd_Works_take_in
  b_Works_take_in : Binds K fd_Works_take_in ["self", "kind", "moment"] []
  m_Works_take_in : Meth K C_Works "take_in" f_Works_take_in
  F_Works_has_blades : Fun K "has_blades" "Works.has_blades" s_Works_has_blades f_Works_has_blades fd_Works_has_blades
  b_Works_has_blades : Binds K fd_Works_has_blades ["self", "numbers"] []
  m_Works_has_blades : Meth K C_Works "has_blades" f_Works_has_blades
  F_Works_of_one_kind : Fun K "of_one_kind" "Works.of_one_kind" s_Works_of_one_kind f_Works_of_one_kind fd_Works_of_one_kind
  b_Works_of_one_kind : Binds K fd_Works_of_one_kind ["self", "numbers"] []
  m_Works_of_one_kind : Meth K C_Works "of_one_kind" f_Works_of_one_kind
  F_Works_all_free : Fun K "all_free" "Works.all_free" s_Works_all_free f_Works_all_free fd_Works_all_free
  b_Works_all_free : Binds K fd_Works_all_free ["self", "numbers"] []
  m_Works_all_free : Meth K C_Works "all_free" f_Works_all_free
  F_Works_free_of_kind : Fun K "free_of_kind" "Works.free_of_kind" s_Works_free_of_kind f_Works_free_of_kind fd_Works_free_of_kind
  b_Works_free_of_kind : Binds K fd_Works_free_of_kind ["self", "kind"] []
  m_Works_free_of_kind : Meth K C_Works "free_of_kind" f_Works_free_of_kind
  F_Works_pulls : Fun K "pulls" "Works.pulls" s_Works_pulls f_Works_pulls fd_Works_pulls
  b_Works_pulls : Binds K fd_Works_pulls ["self", "numbers"] []
  m_Works_pulls : Meth K C_Works "pulls" f_Works_pulls
  F_Works_units_for : Fun K "units_for" "Works.units_for" s_Works_units_for f_Works_units_for fd_Works_units_for
  b_Works_units_for : Binds K fd_Works_units_for ["self", "numbers"] []
  m_Works_units_for : Meth K C_Works "units_for" f_Works_units_for
  F_Works_may_be_set : Fun K "may_be_set" "Works.may_be_set" s_Works_may_be_set f_Works_may_be_set fd_Works_may_be_set
  b_Works_may_be_set : Binds K fd_Works_may_be_set ["self", "numbers"] []
  m_Works_may_be_set : Meth K C_Works "may_be_set" f_Works_may_be_set
  F_Works_needs_nothing : Fun K "needs_nothing" "Works.needs_nothing" s_Works_needs_nothing f_Works_needs_nothing fd_Works_needs_nothing
  b_Works_needs_nothing : Binds K fd_Works_needs_nothing ["self", "numbers"] []
  m_Works_needs_nothing : Meth K C_Works "needs_nothing" f_Works_needs_nothing
  F_Works_even_out : Fun K "even_out" "Works.even_out" s_Works_even_out f_Works_even_out fd_Works_even_out
  b_Works_even_out : Binds K fd_Works_even_out ["self", "numbers"] []
  m_Works_even_out : Meth K C_Works "even_out" f_Works_even_out
  F_Works_bind : Fun K "bind" "Works.bind" s_Works_bind f_Works_bind fd_Works_bind
  b_Works_bind : Binds K fd_Works_bind ["self", "numbers"] []
  m_Works_bind : Meth K C_Works "bind" f_Works_bind
  F_Works_bind_as : Fun K "bind_as" "Works.bind_as" s_Works_bind_as f_Works_bind_as fd_Works_bind_as
  b_Works_bind_as : Binds K fd_Works_bind_as ["self", "s", "numbers"] []
  m_Works_bind_as : Meth K C_Works "bind_as" f_Works_bind_as
  F_Works_least_free_number : Fun K "least_free_number" "Works.least_free_number" s_Works_least_free_number f_Works_least_free_number fd_Works_least_free_number
  b_Works_least_free_number : Binds K fd_Works_least_free_number ["self"] []
  m_Works_least_free_number : Meth K C_Works "least_free_number" f_Works_least_free_number
  F_Works_unbind : Fun K "unbind" "Works.unbind" s_Works_unbind f_Works_unbind fd_Works_unbind
  b_Works_unbind : Binds K fd_Works_unbind ["self", "s"] []
  m_Works_unbind : Meth K C_Works "unbind" f_Works_unbind
  F_Works_rebind : Fun K "rebind" "Works.rebind" s_Works_rebind f_Works_rebind fd_Works_rebind
  b_Works_rebind : Binds K fd_Works_rebind ["self", "s", "numbers"] []
  m_Works_rebind : Meth K C_Works "rebind" f_Works_rebind
  F_Works_send_off : Fun K "send_off" "Works.send_off" s_Works_send_off f_Works_send_off fd_Works_send_off
  b_Works_send_off : Binds K fd_Works_send_off ["self", "s"] []
  m_Works_send_off : Meth K C_Works "send_off" f_Works_send_off
  F_Works_plan : Fun K "plan" "Works.plan" s_Works_plan f_Works_plan fd_Works_plan
  b_Works_plan : Binds K fd_Works_plan ["self", "kind"] []
  m_Works_plan : Meth K C_Works "plan" f_Works_plan
  F_answers : Fun K "answers" "answers" s_answers f_answers fd_answers
  b_answers : Binds K fd_answers ["calls"] []
  mg_answers : mg "answers" = some (.ref f_answers)
  mg_NO_SUCH : mg "NO_SUCH" = some (.int (-2) t_NO_SUCH)
  mg_NOT_STARTED : mg "NOT_STARTED" = some (.int (-11) t_NOT_STARTED)
  mg_NOT_EVEN : mg "NOT_EVEN" = some (.int (-13) t_NOT_EVEN)
  mg_NOT_FREE : mg "NOT_FREE" = some (.int (-16) t_NOT_FREE)
  mg_WRONG : mg "WRONG" = some (.int (-22) t_WRONG)
  mg_FULL : mg "FULL" = some (.int (-28) t_FULL)
  mg_NONE_LEFT : mg "NONE_LEFT" = some (.int (-33) t_NONE_LEFT)
  mg_TOO_MUCH : mg "TOO_MUCH" = some (.int (-62) t_TOO_MUCH)
  mg_GREATEST_MOST : mg "GREATEST_MOST" = some (.int 10000 t_GREATEST_MOST)
  mg_GREATEST_UNIT : mg "GREATEST_UNIT" = some (.int 1000 t_GREATEST_UNIT)
  mg_GREATEST_KIND : mg "GREATEST_KIND" = some (.int 3 t_GREATEST_KIND)
  mg_GREATEST_MOMENT : mg "GREATEST_MOMENT" = some (.int 100000 t_GREATEST_MOMENT)
  mg_BLADES_AT_MOST : mg "BLADES_AT_MOST" = some (.int 20 t_BLADES_AT_MOST)
  mg_START : mg "START" = some (.int 0 t_START)
  mg_COUNTS : mg "COUNTS" = some (.ref a_COUNTS)
  sq_COUNTS : ∀ H : Hp, SqT K H a_COUNTS (([2, 2, 2, 1, 3, 3, 3, 1, 1, 2, 2, 3, 1, 1, 1, 2, 1, 1, 1, 1, 0, 0] : List Int).map V.int)
  mg_REPLIES : mg "REPLIES" = some (.ref a_REPLIES)
  gd_REPLIES_0 : GDict K a_REPLIES 0 (.ref f_reply_start)
  gd_REPLIES_1 : GDict K a_REPLIES 1 (.ref f_reply_blade)
  gd_REPLIES_2 : GDict K a_REPLIES 2 (.ref f_reply_weigh)
  gd_REPLIES_3 : GDict K a_REPLIES 3 (.ref f_reply_scrap)
  gd_REPLIES_4 : GDict K a_REPLIES 4 (.ref f_reply_needs)
  gd_REPLIES_5 : GDict K a_REPLIES 5 (.ref f_reply_off)
  gd_REPLIES_6 : GDict K a_REPLIES 6 (.ref f_reply_match)
  gd_REPLIES_7 : GDict K a_REPLIES 7 (.ref f_reply_set)
  gd_REPLIES_8 : GDict K a_REPLIES 8 (.ref f_reply_part)
  gd_REPLIES_9 : GDict K a_REPLIES 9 (.ref f_reply_third)
  gd_REPLIES_10 : GDict K a_REPLIES 10 (.ref f_reply_spare)
  gd_REPLIES_11 : GDict K a_REPLIES 11 (.ref f_reply_exchange)
  gd_REPLIES_12 : GDict K a_REPLIES 12 (.ref f_reply_plan)
  gd_REPLIES_13 : GDict K a_REPLIES 13 (.ref f_reply_least)
  gd_REPLIES_14 : GDict K a_REPLIES 14 (.ref f_reply_follow)
  gd_REPLIES_15 : GDict K a_REPLIES 15 (.ref f_reply_add)
  gd_REPLIES_16 : GDict K a_REPLIES 16 (.ref f_reply_balanced)
  gd_REPLIES_17 : GDict K a_REPLIES 17 (.ref f_reply_ship)
  gd_REPLIES_18 : GDict K a_REPLIES 18 (.ref f_reply_free)
  gd_REPLIES_19 : GDict K a_REPLIES 19 (.ref f_reply_look)
  gd_REPLIES_20 : GDict K a_REPLIES 20 (.ref f_reply_sums)
  gd_REPLIES_21 : GDict K a_REPLIES 21 (.ref f_reply_state)
  no_all : mg "all" = none
  no_enumerate : mg "enumerate" = none
  no_len : mg "len" = none
  no_list : mg "list" = none
  no_max : mg "max" = none
  no_min : mg "min" = none
  no_range : mg "range" = none
  no_set : mg "set" = none
  no_sorted : mg "sorted" = none
  no_sum : mg "sum" = none
  no_zip : mg "zip" = none
end B
namespace B
open PySem PySem.Spec PyProof.Rows L2
def bf (b : Kqv5.Blade) : List (Str × V) := [("kind", .int (b.kind : Nat)), ("moment", .int (b.moment : Nat)), ("added", .int (b.added : Nat)), ("gone", .bl b.gone), ("set_and_one", .int (b.set : Nat))]
theorem bf_kind (b : Kqv5.Blade) : (bf b).lookup ("kind" : Str) = some (.int (b.kind : Nat)) := by rfl
theorem bf_moment (b : Kqv5.Blade) : (bf b).lookup ("moment" : Str) = some (.int (b.moment : Nat)) := by rfl
theorem bf_added (b : Kqv5.Blade) : (bf b).lookup ("added" : Str) = some (.int (b.added : Nat)) := by rfl
theorem bf_gone (b : Kqv5.Blade) : (bf b).lookup ("gone" : Str) = some (.bl b.gone) := by rfl
theorem bf_set (b : Kqv5.Blade) : (bf b).lookup ("set_and_one" : Str) = some (.int (b.set : Nat)) := by rfl
theorem bf_pull (b : Kqv5.Blade) : (bf b).lookup ("pull" : Str) = none := by rfl
end B
theorem boot_maxB : PySem.bootBuiltins "max" = some (.builtin "max") := by decide +kernel
theorem boot_minB : PySem.bootBuiltins "min" = some (.builtin "min") := by decide +kernel
theorem boot_sumB : PySem.bootBuiltins "sum" = some (.builtin "sum") := by decide +kernel
theorem boot_allB : PySem.bootBuiltins "all" = some (.builtin "all") := by decide +kernel
theorem boot_listB : PySem.bootBuiltins "list" = some (.type "list") := by decide +kernel
theorem boot_setB : PySem.bootBuiltins "set" = some (.type "set") := by decide +kernel
namespace B
open PySem PySem.Spec PyProof.Rows L2
section
variable {P : Program} {w : World} {K : PySem.W.Frag} {mg : Str → Option Value} {base : Heap}
def BladeAt (T : Txt K mg) (H : Hp) (a : Addr) (b : Kqv5.Blade) : Prop := ∃ dx, H a = some (.ins T.C_Blade dx (bf b))
def sp_Blade_pull (T : Txt K mg) : Sp := fun vs H Q _ => ∃ a b, vs = [.ref a] ∧ BladeAt T H a b ∧ Q (.int (b.moment + b.added : Nat)) H
theorem ok_Blade_pull (T : Txt K mg) : FnOk P w K mg base CX0 1 T.f_Blade_pull T.fd_Blade_pull ["self"] (sp_Blade_pull T) := by
  refine T.F_Blade_pull.ok sc_Blade_pull (fun vs H Q E h => ?_) (fun cdv A outer s H vs Q E hr h => ?_)
  · obtain ⟨a, b, rfl, _⟩ := h
    rfl
  · obtain ⟨a, b, rfl, ⟨dx, ha⟩, k⟩ := h
    refine ⟨_, (pss_one (ps_ret (pe_op op_add (pe_fld (pv 0) rfl) (pe_fld (pv 0) rfl)))), ?_⟩
    exact ⟨_, rfl, a, _, dx, _, _, rfl, ha, T.cl_Blade, T.na_Blade_moment, bf_moment b, _, rfl, a, _, dx, _, _, rfl, ha, T.cl_Blade, T.na_Blade_added, bf_added b, _, _, rfl, rfl, k⟩
def sp_Blade_is_free (T : Txt K mg) : Sp := fun vs H Q _ => ∃ a b, vs = [.ref a] ∧ BladeAt T H a b ∧ Q (.bl (b.set == 0 && !b.gone)) H
theorem ok_Blade_is_free (T : Txt K mg) : FnOk P w K mg base CX0 1 T.f_Blade_is_free T.fd_Blade_is_free ["self"] (sp_Blade_is_free T) := by
  refine T.F_Blade_is_free.ok sc_Blade_is_free (fun vs H Q E h => ?_) (fun cdv A outer s H vs Q E hr h => ?_)
  · obtain ⟨a, b, rfl, _⟩ := h
    rfl
  · obtain ⟨a, b, rfl, ⟨dx, ha⟩, k⟩ := h
    refine ⟨_, (pss_one (ps_ret (pe_and (pe_not (pe_fld (pv 0) rfl)) (pe_one (pe_cmpR op_eq (pe_fld (pv 0) rfl) (pe_int) (nomark _)))))), ?_⟩
    refine ⟨_, rfl, a, _, dx, _, _, rfl, ha, T.cl_Blade, T.na_Blade_gone, bf_gone b, _, rfl, _, rfl, ?_⟩
    cases hg : b.gone with
    | true =>
      refine iteF ?_
      rw [hg] at k
      simpa using k
    | false =>
      refine iteT ⟨_, rfl, a, _, dx, _, _, rfl, ha, T.cl_Blade, T.na_Blade_set_and_one, bf_set b, rfl, ?_⟩
      rw [hg] at k
      have e : decide (V.int ((b.set : Nat) : Int) = V.int 0) = (b.set == 0 && !false) := by
        rw [Bool.eq_iff_iff, decide_eq_true_eq]
        simp
      rw [e]
      exact k
/-- naturals as values -/
def vn (l : List Nat) : List V := (Kqv5.nats l).map V.int
theorem vn_map (l : List Nat) : vn l = l.map fun n => V.int ((n : Nat) : Int) := by unfold vn Kqv5.nats; rw [List.map_map]; rfl
/-- [(greatest - pull) // unit for pull in pulls] -/
def sp_units_needed (T : Txt K mg) : Sp := fun vs H Q _ => ∃ (p : Addr) (ns : List Nat) (u : Nat), vs = [.ref p, .int (u : Nat)] ∧ H p = some (.lst (vn ns)) ∧ ns ≠ [] ∧ ns.length ≤ 100 ∧ 1 ≤ u ∧ u ≤ 1000 ∧
  ∀ (H' : Hp) (q : Addr), Same H H' → H q = none → H' q = some (.lst (vn (Kqv5.needs u ns))) → Q (.ref q) H'
theorem ok_units_needed (T : Txt K mg) : FnOk P w K mg base CX0 1 T.f_units_needed T.fd_units_needed ["pulls", "unit"] (sp_units_needed T) := by
  refine T.F_units_needed.ok sc_units_needed (fun vs H Q E h => ?_) (fun cdv A outer s H vs Q E hr h => ?_)
  · obtain ⟨p, ns, u, rfl, _⟩ := h
    rfl
  · obtain ⟨p, ns, u, rfl, hp, hne, hlen, hu1, hu2, k⟩ := h
    refine ⟨_, (pss_cons (ps_set (i := 2) sc_units_needed.nd rfl (by first | exact Or.inl rfl | exact Or.inr rfl) (pe_callB (cr_max rfl) (by rfl) T.no_max boot_maxB (pa_cons (pv 0) pa_nil)))
      (pss_one (ps_ret (pe_lc (own := [("pull", 3)]) (g := (gName 3)) (tt := tYes) (te := (tOp (rI CDiv fun i j => V.int (i / j)) (tOp (rI0 fun i j => V.int (i - j)) (tVar 2) (tVar 3)) (tVar 1))) rfl sc_units_needed.nd (pi_list (pv 0)) (blkOk_by (show blkC ["pulls", "unit", "greatest", "pull"] (defScope s_units_needed) _ [("pull", 3)] = true by decide +kernel)) (fun _ _ _ _ _ => by exact (pg_name (i := 3) sc_units_needed.nd rfl (by first | exact Or.inl rfl | exact Or.inr rfl))) (fun _ _ _ _ _ => by exact pts_nil) (fun _ _ _ _ _ => by exact pe_op op_fdiv (pe_op op_sub (pv 2) (pv 3)) (pv 1)))))), ?_⟩
    have hl : SqL K H p (vn ns) := SqL.of hp
    refine ⟨_, rfl, p, Kqv5.nats ns, rfl, hl, ?_, fun m hm hmax => ?_⟩
    · unfold Kqv5.nats; rw [List.length_map]; exact List.length_pos_iff.mpr hne
    obtain ⟨M0, hM0, rfl⟩ := List.mem_map.mp hm
    have hg : Kqv5.greatest ns = M0 := M.greatest_eq hM0 fun x hx => by
      have := hmax x (List.mem_map_of_mem (f := fun (x : Nat) => (x : Int)) hx)
      omega
    rw [vn_map] at hl
    refine ⟨_, rfl, p, rfl, ⟨_, hl⟩, fun D hD => lc_mapL ns (fun n => V.int ((n : Nat) : Int)) (fun _ => true) (fun n => V.int (((M0 - n) / u : Nat) : Int)) hD hl (by omega) (fun i z H2 Tr Fa hz hs h1 h2 => ?_) (fun H2 s2 hD2 => ?_)⟩
    · refine ⟨rfl, iteT (B := Fa H2) ?_⟩
      refine ⟨_, rfl, _, rfl, _, _, rfl, rfl, _, rfl, _, _, rfl, rfl, ⟨by omega, by omega⟩, ?_⟩
      have hz2 : z ≤ M0 := by rw [← hg]; exact M.greatest_ge (List.mem_of_getElem? hz)
      have e : ((M0 : Int) - (z : Int)) / (u : Int) = (((M0 - z) / u : Nat) : Int) := by
        rw [Int.natCast_ediv, Int.ofNat_sub hz2]
      show Tr (V.int (((M0 : Int) - (z : Int)) / (u : Int))) H2
      rw [e]
      exact h1 rfl H2 (Same.refl _)
    · refine k H2 D s2 hD ?_
      rw [hD2, show ns.filter (fun _ => true) = ns from by simp, vn_map]
      unfold Kqv5.needs
      rw [hg, List.map_map]
      rfl
end
end B
namespace B
open PySem PySem.Spec PyProof.Rows L2
open Kqv5 (Hall)
section
variable {P : Program} {w : World} {K : PySem.W.Frag} {mg : Str → Option Value} {base : Heap}
def wf (st : Bool) (h : Hall) (lb dt : Addr) : List (Str × V) := [("started", .bl st), ("most", .int (h.most : Nat)), ("unit", .int (h.unit : Nat)), ("blades", .ref lb), ("trios", .ref dt)]
structure Rep where
  dw : Addr
  lb : Addr
  dt : Addr
  as : List Addr
  kvs : List (Nat × Addr)
/-- the works at wk stand for h -/
structure WA (T : Txt K mg) (H : Hp) (wk : Addr) (r : Rep) (st : Bool) (h : Hall) : Prop where
  ob : H wk = some (.ins T.C_Works r.dw (wf st h r.lb r.dt))
  lst : H r.lb = some (.lst (r.as.map V.ref))
  alen : r.as.length = h.blades.length
  and_ : r.as.Nodup
  bl : ∀ (j : Nat) (a : Addr) (b : Kqv5.Blade), r.as[j]? = some a → h.blades[j]? = some b → BladeAt T H a b
  dct : H r.dt = some (.dK (r.kvs.map fun p => ((Sum.inl ((p.1 : Nat) : Int) : Key), V.ref p.2)))
  kn : (r.kvs.map (·.1)).Nodup
  ln : (r.kvs.map (·.2)).Nodup
  lbn : r.lb ∉ r.kvs.map (·.2)
  ks : ∀ p ∈ r.kvs, ∃ t, h.sets[p.1]? = some (some t) ∧ H p.2 = some (.lst (vn t))
  sk : ∀ (s : Nat) (t : List Nat), h.sets[s]? = some (some t) → ∃ l, (s, l) ∈ r.kvs
variable {T : Txt K mg} {H H' : Hp} {wk : Addr} {r : Rep} {st : Bool} {h : Hall}
theorem BladeAt.same {a : Addr} {b : Kqv5.Blade} (B : BladeAt T H a b) (s : Same H H') : BladeAt T H' a b := let ⟨dx, e⟩ := B; ⟨dx, s _ _ e⟩
theorem WA.same (W : WA T H wk r st h) (s : Same H H') : WA T H' wk r st h :=
  ⟨s _ _ W.ob, s _ _ W.lst, W.alen, W.and_, fun j a b h1 h2 => (W.bl j a b h1 h2).same s, s _ _ W.dct, W.kn, W.ln, W.lbn, fun p hp => let ⟨t, h1, h2⟩ := W.ks p hp; ⟨t, h1, s _ _ h2⟩, W.sk⟩
theorem WA.get (W : WA T H wk r st h) {i : Nat} (hi : i < h.blades.length) : ∃ a b, r.as[i]? = some a ∧ h.blades[i]? = some b ∧ BladeAt T H a b := by
  have h1 : i < r.as.length := by rw [W.alen]; exact hi
  exact ⟨_, _, List.getElem?_eq_getElem h1, List.getElem?_eq_getElem hi, W.bl i _ _ (List.getElem?_eq_getElem h1) (List.getElem?_eq_getElem hi)⟩
/-! readings that come again and again -/
theorem rd_blades (W : WA T H wk r st h) {σ : L2.St} {n : Nat} {Q : VK} (h1 : σ[n]? = some (some (.ref wk))) (k : Q (.ref r.lb) H) : tFld K (tVar n) "blades" σ H Q :=
  ⟨_, h1, wk, _, _, _, _, rfl, W.ob, T.cl_Works, T.na_Works_blades, rfl, k⟩
theorem rd_trios (W : WA T H wk r st h) {σ : L2.St} {n : Nat} {Q : VK} (h1 : σ[n]? = some (some (.ref wk))) (k : Q (.ref r.dt) H) : tFld K (tVar n) "trios" σ H Q :=
  ⟨_, h1, wk, _, _, _, _, rfl, W.ob, T.cl_Works, T.na_Works_trios, rfl, k⟩
theorem rd_unit (W : WA T H wk r st h) {σ : L2.St} {n : Nat} {Q : VK} (h1 : σ[n]? = some (some (.ref wk))) (k : Q (.int (h.unit : Nat)) H) : tFld K (tVar n) "unit" σ H Q :=
  ⟨_, h1, wk, _, _, _, _, rfl, W.ob, T.cl_Works, T.na_Works_unit, rfl, k⟩
theorem rd_most (W : WA T H wk r st h) {σ : L2.St} {n : Nat} {Q : VK} (h1 : σ[n]? = some (some (.ref wk))) (k : Q (.int (h.most : Nat)) H) : tFld K (tVar n) "most" σ H Q :=
  ⟨_, h1, wk, _, _, _, _, rfl, W.ob, T.cl_Works, T.na_Works_most, rfl, k⟩
theorem rd_blade (W : WA T H wk r st h) {σ : L2.St} {n : Nat} {i : Nat} {a : Addr} {ti : TE} {Q : VK} (h1 : σ[n]? = some (some (.ref wk))) (ha : r.as[i]? = some a) (h2 : ∀ Q' : VK, Q' (.int (i : Nat)) H → ti σ H Q') (k : Q (.ref a) H) :
    tOp (rIxL K) (tFld K (tVar n) "blades") ti σ H Q :=
  rd_blades W h1 (h2 _ ⟨r.lb, _, _, _, rfl, rfl, SqL.of W.lst, atI_nat (by rw [List.getElem?_map, ha]; rfl), k⟩)
/-- self.blades[i].pull() -/
def sp_Works_pulls (T : Txt K mg) : Sp := fun vs H Q _ => ∃ (wk p : Addr) (r : Rep) (st : Bool) (h : Hall) (l : List Nat), vs = [.ref wk, .ref p] ∧ WA T H wk r st h ∧ H p = some (.lst (vn l)) ∧ l.length ≤ 100 ∧ (∀ i ∈ l, i < h.blades.length) ∧
  ∀ (H' : Hp) (q : Addr), Same H H' → H q = none → H' q = some (.lst (vn (l.map (Kqv5.full h)))) → Q (.ref q) H'
theorem ok_Works_pulls (T : Txt K mg) : FnOk P w K mg base CX0 2 T.f_Works_pulls T.fd_Works_pulls ["self", "numbers"] (sp_Works_pulls T) := by
  refine T.F_Works_pulls.ok sc_Works_pulls (fun vs H Q E h => ?_) (fun cdv A outer s H vs Q E hr h => ?_)
  · obtain ⟨wk, p, r, st, h, l, rfl, _⟩ := h
    rfl
  · obtain ⟨wk, p, r, st, h, l, rfl, W, hp, hlen, hv, k⟩ := h
    refine ⟨_, (pss_one (ps_ret (pe_lc (own := [("i", 2)]) (g := (gName 2)) (tt := tYes) (te := (tMeth T.C_Blade "pull" (sp_Blade_pull T) [] E0 (tOp (rIxL K) (tFld K (tVar 0) "blades") (tVar 2)) tNil)) rfl sc_Works_pulls.nd (pi_list (pv 1)) (blkOk_by (show blkC ["self", "numbers", "i"] (defScope s_Works_pulls) _ [("i", 2)] = true by decide +kernel)) (fun _ _ _ _ _ => by exact (pg_name (i := 2) sc_Works_pulls.nd rfl (by first | exact Or.inl rfl | exact Or.inr rfl))) (fun _ _ _ _ _ => by exact pts_nil) (fun _ _ _ _ _ => by exact pe_meth0 (pe_ix ix_list (pe_fld (pv 0) rfl) (pv 2) (fun _ _ => rfl)) T.cl_Blade T.m_Blade_pull (ok_Blade_pull T) (hr.mono (by decide)) T.b_Blade_pull .nil pass0)))), ?_⟩
    have hl : SqL K H p (vn l) := SqL.of hp
    rw [vn_map] at hl
    refine ⟨_, rfl, p, rfl, ⟨_, hl⟩, fun D hD => lc_mapL l (fun n => V.int ((n : Nat) : Int)) (fun _ => true) (fun n => V.int ((Kqv5.full h n : Nat) : Int)) hD hl (by omega) (fun i z H2 Tr Fa hz hs h1 h2 => ?_) (fun H2 s2 hD2 => ?_)⟩
    · refine ⟨rfl, iteT (B := Fa H2) ?_⟩
      obtain ⟨a, b, ha, hb, Bl⟩ := (W.same hs).get (hv z (List.mem_of_getElem? hz))
      obtain ⟨dx, hdx⟩ := id Bl
      refine rd_blade (W.same hs) rfl ha (fun Q' q => ⟨_, rfl, q⟩) ⟨a, dx, _, rfl, hdx, bf_pull b, a, b, rfl, Bl, ?_⟩
      have e : Kqv5.full h z = b.moment + b.added := M.full_of hb
      rw [← e]
      exact h1 rfl H2 (Same.refl _)
    · refine k H2 D s2 hD ?_
      rw [hD2, show l.filter (fun _ => true) = l from by simp, vn_map, List.map_map]
      rfl
def sp_Works_units_for (T : Txt K mg) : Sp := fun vs H Q _ => ∃ (wk p : Addr) (r : Rep) (st : Bool) (h : Hall) (l : List Nat), vs = [.ref wk, .ref p] ∧ WA T H wk r st h ∧ M.Wf h ∧ H p = some (.lst (vn l)) ∧ l ≠ [] ∧ l.length ≤ 100 ∧ (∀ i ∈ l, i < h.blades.length) ∧
  ∀ (H' : Hp) (q : Addr), Same H H' → H q = none → H' q = some (.lst (vn (Kqv5.needs h.unit (l.map (Kqv5.full h))))) → Q (.ref q) H'
theorem ok_Works_units_for (T : Txt K mg) : FnOk P w K mg base CX0 3 T.f_Works_units_for T.fd_Works_units_for ["self", "numbers"] (sp_Works_units_for T) := by
  refine T.F_Works_units_for.ok sc_Works_units_for (fun vs H Q E h => ?_) (fun cdv A outer s H vs Q E hr h => ?_)
  · obtain ⟨wk, p, r, st, h, l, rfl, _⟩ := h
    rfl
  · obtain ⟨wk, p, r, st, h, l, rfl, W, wfh, hp, hne, hlen, hv, k⟩ := h
    refine ⟨_, (pss_one (ps_ret (pe_call (ok_units_needed T) (hr.mono (by decide)) (by rfl) T.mg_units_needed T.F_units_needed.kp T.b_units_needed .nil pass0 (pa_cons (pe_meth (pv 0) T.cl_Works T.m_Works_pulls (ok_Works_pulls T) (hr.mono (by decide)) T.b_Works_pulls .nil pass0 (pa_cons (pv 1) pa_nil)) (pa_cons (pe_fld (pv 0) rfl) pa_nil))))), ?_⟩
    refine ⟨_, rfl, wk, _, _, rfl, W.ob, rfl, _, rfl, wk, p, r, st, h, l, rfl, W, hp, hlen, hv, fun H1 q s1 hq hq1 => ?_⟩
    refine rd_unit (W.same s1) rfl ?_
    refine ⟨q, _, h.unit, rfl, hq1, by simpa using hne, by simpa using hlen, wfh.unit.1, wfh.unit.2, fun H2 q2 s2 hq2 e2 => ?_⟩
    exact k H2 q2 (s1.trans s2) (s1.free hq2) e2
end
end B
namespace B
open PySem PySem.Spec PyProof.Rows L2
open Kqv5 (Hall)
section
variable {P : Program} {w : World} {K : PySem.W.Frag} {mg : Str → Option Value} {base : Heap}
theorem vn_at {l : List Nat} {j n : Nat} (h : l[j]? = some n) : (vn l)[j]? = some (V.int ((n : Nat) : Int)) := by
  rw [vn_map, List.getElem?_map, h]; rfl
theorem vn_len (l : List Nat) : (vn l).length = l.length := by rw [vn_map, List.length_map]
theorem nats_len (l : List Nat) : (Kqv5.nats l).length = l.length := by unfold Kqv5.nats; rw [List.length_map]
def sp_how_far_off (T : Txt K mg) : Sp := fun vs H Q _ => ∃ (p : Addr) (a b c : Nat), vs = [.ref p] ∧ H p = some (.lst (vn [a, b, c])) ∧ a ≤ 110000 ∧ b ≤ 110000 ∧ c ≤ 110000 ∧ Q (.int (Kqv5.off a b c)) H
theorem ok_how_far_off (T : Txt K mg) : FnOk P w K mg base CX0 1 T.f_how_far_off T.fd_how_far_off ["pulls"] (sp_how_far_off T) := by
  refine T.F_how_far_off.ok sc_how_far_off (fun vs H Q E h => ?_) (fun cdv A outer s H vs Q E hr h => ?_)
  · obtain ⟨p, a, b, c, rfl, _⟩ := h
    rfl
  · obtain ⟨p, a, b, c, rfl, hp, ha, hb, hc, k⟩ := h
    refine ⟨_, (pss_cons (ps_set (i := 1) sc_how_far_off.nd rfl (by first | exact Or.inl rfl | exact Or.inr rfl) (pe_ix ix_list (pv 0) (pe_int) (fun _ _ => rfl)))
      (pss_cons (ps_set (i := 2) sc_how_far_off.nd rfl (by first | exact Or.inl rfl | exact Or.inr rfl) (pe_ix ix_list (pv 0) (pe_int) (fun _ _ => rfl)))
      (pss_cons (ps_set (i := 3) sc_how_far_off.nd rfl (by first | exact Or.inl rfl | exact Or.inr rfl) (pe_ix ix_list (pv 0) (pe_int) (fun _ _ => rfl)))
      (pss_one (ps_ret (pe_op op_sub (pe_op op_sub (pe_op op_sub (pe_op op_add (pe_op op_add (pe_op op_mul (pv 1) (pv 1)) (pe_op op_mul (pv 2) (pv 2))) (pe_op op_mul (pv 3) (pv 3))) (pe_op op_mul (pv 1) (pv 2))) (pe_op op_mul (pv 2) (pv 3))) (pe_op op_mul (pv 3) (pv 1)))))))), ?_⟩
    have hl : SqL K H p (vn [a, b, c]) := SqL.of hp
    refine ⟨_, rfl, p, _, _, _, rfl, rfl, hl, atI_nat (j := 0) (vn_at rfl), ?_⟩
    refine ⟨_, rfl, p, _, _, _, rfl, rfl, hl, atI_nat (j := 1) (vn_at rfl), ?_⟩
    refine ⟨_, rfl, p, _, _, _, rfl, rfl, hl, atI_nat (j := 2) (vn_at rfl), ?_⟩
    have m : ∀ {x y : Nat}, x ≤ 110000 → CMul (x : Int) (y : Int) := fun {x y} hx => .inl ⟨by omega, by omega⟩
    refine ⟨_, rfl, _, rfl, _, _, rfl, rfl, m ha, _, rfl, _, rfl, _, _, rfl, rfl, m hb, _, _, rfl, rfl, _, rfl, _, rfl, _, _, rfl, rfl, m hc, _, _, rfl, rfl,
      _, rfl, _, rfl, _, _, rfl, rfl, m ha, _, _, rfl, rfl, _, rfl, _, rfl, _, _, rfl, rfl, m hb, _, _, rfl, rfl, _, rfl, _, rfl, _, _, rfl, rfl, m hc, _, _, rfl, rfl, k⟩
def sp_Works_has_blades (T : Txt K mg) : Sp := fun vs H Q _ => ∃ (wk p : Addr) (r : Rep) (st : Bool) (h : Hall) (l : List Nat), vs = [.ref wk, .ref p] ∧ WA T H wk r st h ∧ H p = some (.lst (vn l)) ∧ l ≠ [] ∧
  Q (.bl (l.all fun i => decide (i < h.blades.length))) H
theorem ok_Works_has_blades (T : Txt K mg) : FnOk P w K mg base CX0 1 T.f_Works_has_blades T.fd_Works_has_blades ["self", "numbers"] (sp_Works_has_blades T) := by
  refine T.F_Works_has_blades.ok sc_Works_has_blades (fun vs H Q E h => ?_) (fun cdv A outer s H vs Q E hr h => ?_)
  · obtain ⟨wk, p, r, st, h, l, rfl, _⟩ := h
    rfl
  · obtain ⟨wk, p, r, st, h, l, rfl, W, hp, hne, k⟩ := h
    refine ⟨_, (pss_one (ps_ret (pe_cmpR op_lt (pe_callB (cr_max rfl) (by rfl) T.no_max boot_maxB (pa_cons (pv 1) pa_nil)) (pe_callB call_len_seq (by rfl) T.no_len PySem.boot_len (pa_cons (pe_fld (pv 0) rfl) pa_nil)) (nomark _)))), ?_⟩
    refine ⟨_, rfl, p, Kqv5.nats l, rfl, SqL.of hp, by rw [nats_len]; exact List.length_pos_iff.mpr hne, fun m hm hmax => rd_blades W rfl ⟨r.lb, _, rfl, .inl (SqL.of W.lst), _, _, rfl, rfl, ?_⟩⟩
    obtain ⟨M0, hM0, rfl⟩ := List.mem_map.mp hm
    have e : decide ((M0 : Int) < (((r.as.map V.ref).length : Nat) : Int)) = l.all fun i => decide (i < h.blades.length) := by
      rw [Bool.eq_iff_iff, decide_eq_true_eq, List.all_eq_true, List.length_map, W.alen]
      constructor
      · intro z x hx
        have := hmax x (List.mem_map_of_mem (f := fun (x : Nat) => (x : Int)) hx)
        simp
        omega
      · intro z
        have := z M0 hM0
        simp at this
        omega
    show Q (V.bl (decide ((M0 : Int) < (((r.as.map V.ref).length : Nat) : Int)))) H
    rw [e]
    exact k
def sp_Works_all_free (T : Txt K mg) : Sp := fun vs H Q _ => ∃ (wk p : Addr) (r : Rep) (st : Bool) (h : Hall) (l : List Nat), vs = [.ref wk, .ref p] ∧ WA T H wk r st h ∧ H p = some (.lst (vn l)) ∧ l.length ≤ 100 ∧ (∀ i ∈ l, i < h.blades.length) ∧
  ∀ H', Same H H' → Q (.bl (l.all (Kqv5.isFree h))) H'
theorem ok_Works_all_free (T : Txt K mg) : FnOk P w K mg base CX0 2 T.f_Works_all_free T.fd_Works_all_free ["self", "numbers"] (sp_Works_all_free T) := by
  refine T.F_Works_all_free.ok sc_Works_all_free (fun vs H Q E h => ?_) (fun cdv A outer s H vs Q E hr h => ?_)
  · obtain ⟨wk, p, r, st, h, l, rfl, _⟩ := h
    rfl
  · obtain ⟨wk, p, r, st, h, l, rfl, W, hp, hlen, hv, k⟩ := h
    refine ⟨_, (pss_one (ps_ret (pe_callB (cr_all rfl) (by rfl) T.no_all boot_allB (pa_cons (pe_lc (own := [("i", 2)]) (g := (gName 2)) (tt := tYes) (te := (tMeth T.C_Blade "is_free" (sp_Blade_is_free T) [] E0 (tOp (rIxL K) (tFld K (tVar 0) "blades") (tVar 2)) tNil)) rfl sc_Works_all_free.nd (pi_list (pv 1)) (blkOk_by (show blkC ["self", "numbers", "i"] (defScope s_Works_all_free) _ [("i", 2)] = true by decide +kernel)) (fun _ _ _ _ _ => by exact (pg_name (i := 2) sc_Works_all_free.nd rfl (by first | exact Or.inl rfl | exact Or.inr rfl))) (fun _ _ _ _ _ => by exact pts_nil) (fun _ _ _ _ _ => by exact pe_meth0 (pe_ix ix_list (pe_fld (pv 0) rfl) (pv 2) (fun _ _ => rfl)) T.cl_Blade T.m_Blade_is_free (ok_Blade_is_free T) (hr.mono (by decide)) T.b_Blade_is_free .nil pass0)) pa_nil)))), ?_⟩
    have hl : SqL K H p (vn l) := SqL.of hp
    rw [vn_map] at hl
    refine ⟨_, rfl, p, rfl, ⟨_, hl⟩, fun D hD => lc_mapL l (fun n => V.int ((n : Nat) : Int)) (fun _ => true) (fun n => V.bl (Kqv5.isFree h n)) hD hl (by omega) (fun i z H2 Tr Fa hz hs h1 h2 => ?_) (fun H2 s2 hD2 => ?_)⟩
    · refine ⟨rfl, iteT (B := Fa H2) ?_⟩
      obtain ⟨a, b, ha, hb, Bl⟩ := (W.same hs).get (hv z (List.mem_of_getElem? hz))
      obtain ⟨dx, hdx⟩ := id Bl
      refine rd_blade (W.same hs) rfl ha (fun Q' q => ⟨_, rfl, q⟩) ⟨a, dx, _, rfl, hdx, rfl, a, b, rfl, Bl, ?_⟩
      rw [← M.free_of hb]
      exact h1 rfl H2 (Same.refl _)
    · refine ⟨D, l.map (Kqv5.isFree h), rfl, SqL.of ?_, ?_⟩
      · rw [hD2, show l.filter (fun _ => true) = l from by simp, List.map_map]
        rfl
      · have e : (l.map (Kqv5.isFree h)).all id = l.all (Kqv5.isFree h) := by rw [List.all_map]; rfl
        rw [e]
        exact k H2 s2
def sp_Works_of_one_kind (T : Txt K mg) : Sp := fun vs H Q _ => ∃ (wk p : Addr) (r : Rep) (st : Bool) (h : Hall) (x : Nat) (l : List Nat), vs = [.ref wk, .ref p] ∧ WA T H wk r st h ∧ H p = some (.lst (vn (x :: l))) ∧ l.length ≤ 90 ∧ (∀ i ∈ x :: l, i < h.blades.length) ∧
  ∀ H', Same H H' → Q (.bl ((x :: l).all fun i => decide (Kqv5.kind h i = Kqv5.kind h x))) H'
theorem ok_Works_of_one_kind (T : Txt K mg) : FnOk P w K mg base CX0 1 T.f_Works_of_one_kind T.fd_Works_of_one_kind ["self", "numbers"] (sp_Works_of_one_kind T) := by
  refine T.F_Works_of_one_kind.ok sc_Works_of_one_kind (fun vs H Q E h => ?_) (fun cdv A outer s H vs Q E hr h => ?_)
  · obtain ⟨wk, p, r, st, h, x, l, rfl, _⟩ := h
    rfl
  · obtain ⟨wk, p, r, st, h, x, l, rfl, W, hp, hlen, hv, k⟩ := h
    refine ⟨_, (pss_cons (ps_set (i := 2) sc_Works_of_one_kind.nd rfl (by first | exact Or.inl rfl | exact Or.inr rfl) (pe_fld (pe_ix ix_list (pe_fld (pv 0) rfl) (pe_ix ix_list (pv 1) (pe_int) (fun _ _ => rfl)) (fun _ _ => rfl)) rfl))
      (pss_one (ps_ret (pe_callB (cr_all rfl) (by rfl) T.no_all boot_allB (pa_cons (pe_lc (own := [("i", 3)]) (g := (gName 3)) (tt := tYes) (te := (tOp rEq (tFld K (tOp (rIxL K) (tFld K (tVar 0) "blades") (tVar 3)) "kind") (tVar 2))) rfl sc_Works_of_one_kind.nd (pi_list (pv 1)) (blkOk_by (show blkC ["self", "numbers", "kind", "i"] (defScope s_Works_of_one_kind) _ [("i", 3)] = true by decide +kernel)) (fun _ _ _ _ _ => by exact (pg_name (i := 3) sc_Works_of_one_kind.nd rfl (by first | exact Or.inl rfl | exact Or.inr rfl))) (fun _ _ _ _ _ => by exact pts_nil) (fun _ _ _ _ _ => by exact pe_cmpR op_eq (pe_fld (pe_ix ix_list (pe_fld (pv 0) rfl) (pv 3) (fun _ _ => rfl)) rfl) (pv 2) (nomark _))) pa_nil))))), ?_⟩
    have hl : SqL K H p (vn (x :: l)) := SqL.of hp
    obtain ⟨a, b, ha, hb, dx, hdx⟩ := W.get (hv x List.mem_cons_self)
    refine rd_blade W rfl ha (fun Q' q => ⟨_, rfl, p, _, _, _, rfl, rfl, hl, atI_nat (j := 0) (vn_at rfl), q⟩) ⟨a, _, dx, _, _, rfl, hdx, T.cl_Blade, T.na_Blade_kind, bf_kind b, ?_⟩
    have ek : b.kind = Kqv5.kind h x := (M.kind_of hb).symm
    rw [ek]
    rw [vn_map] at hl
    refine ⟨_, rfl, p, rfl, ⟨_, hl⟩, fun D hD => lc_mapL (x :: l) (fun n => V.int ((n : Nat) : Int)) (fun _ => true) (fun n => V.bl (decide (Kqv5.kind h n = Kqv5.kind h x))) hD hl (by rw [List.length_cons]; omega) (fun i z H2 Tr Fa hz hs h1 h2 => ?_) (fun H2 s2 hD2 => ?_)⟩
    · refine ⟨rfl, iteT (B := Fa H2) ?_⟩
      obtain ⟨a', b', ha', hb', dx', hdx'⟩ := (W.same hs).get (hv z (List.mem_of_getElem? hz))
      refine rd_blade (W.same hs) rfl ha' (fun Q' q => ⟨_, rfl, q⟩) ⟨a', _, dx', _, _, rfl, hdx', T.cl_Blade, T.na_Blade_kind, bf_kind b', _, rfl, rfl, ?_⟩
      have e : decide (V.int ((b'.kind : Nat) : Int) = V.int ((Kqv5.kind h x : Nat) : Int)) = decide (Kqv5.kind h z = Kqv5.kind h x) := by
        rw [M.kind_of hb', Bool.eq_iff_iff, decide_eq_true_eq, decide_eq_true_eq]
        constructor
        · intro q; injection q with q; omega
        · intro q; rw [q]
      rw [e]
      exact h1 rfl H2 (Same.refl _)
    · refine ⟨D, (x :: l).map fun n => decide (Kqv5.kind h n = Kqv5.kind h x), rfl, SqL.of ?_, ?_⟩
      · rw [hD2, show (x :: l).filter (fun _ => true) = x :: l from by simp, List.map_map]
        rfl
      · have e : ((x :: l).map fun n => decide (Kqv5.kind h n = Kqv5.kind h x)).all id = (x :: l).all fun i => decide (Kqv5.kind h i = Kqv5.kind h x) := by rw [List.all_map]; rfl
        rw [e]
        exact k H2 s2
def sp_Works_free_of_kind (T : Txt K mg) : Sp := fun vs H Q _ => ∃ (wk : Addr) (r : Rep) (st : Bool) (h : Hall) (n : Nat), vs = [.ref wk, .int (n : Nat)] ∧ WA T H wk r st h ∧ h.blades.length ≤ 20 ∧
  ∀ (H' : Hp) (q : Addr), Same H H' → H q = none → H' q = some (.lst (vn (Kqv5.free h n))) → Q (.ref q) H'
theorem ok_Works_free_of_kind (T : Txt K mg) : FnOk P w K mg base CX0 2 T.f_Works_free_of_kind T.fd_Works_free_of_kind ["self", "kind"] (sp_Works_free_of_kind T) := by
  refine T.F_Works_free_of_kind.ok sc_Works_free_of_kind (fun vs H Q E h => ?_) (fun cdv A outer s H vs Q E hr h => ?_)
  · obtain ⟨wk, r, st, h, n, rfl, _⟩ := h
    rfl
  · obtain ⟨wk, r, st, h, n, rfl, W, hlen, k⟩ := h
    refine ⟨_, (pss_one (ps_ret (pe_lc (own := [("i", 2), ("blade", 3)]) (g := (gTup K 2 (gCons (gName 2) (gCons (gName 3) gNil)))) (tt := (tAnd (tTest (tOp rEq (tFld K (tVar 3) "kind") (tVar 1))) (tB (tMeth T.C_Blade "is_free" (sp_Blade_is_free T) [] E0 (tVar 3) tNil)))) (te := (tVar 2)) rfl sc_Works_free_of_kind.nd (pi_enum (by rfl) T.no_enumerate (pa_cons (pe_fld (pv 0) rfl) pa_nil)) (blkOk_by (show blkC ["self", "kind", "i", "blade"] (defScope s_Works_free_of_kind) _ [("i", 2), ("blade", 3)] = true by decide +kernel)) (fun _ _ _ _ _ => by exact (pg_tup rfl (pgs_cons (pg_name (i := 2) sc_Works_free_of_kind.nd rfl (by first | exact Or.inl rfl | exact Or.inr rfl)) (pgs_cons (pg_name (i := 3) sc_Works_free_of_kind.nd rfl (by first | exact Or.inl rfl | exact Or.inr rfl)) pgs_nil)))) (fun _ _ _ _ _ => by exact pts_one (PW.pt (pw_and (pt_cmpR op_eq (pe_fld (pv 3) rfl) (pv 1) (nomark _)) (pw_and1 (pt_val (pe_meth0 (pv 3) T.cl_Blade T.m_Blade_is_free (ok_Blade_is_free T) (hr.mono (by decide)) T.b_Blade_is_free .nil pass0)))))) (fun _ _ _ _ _ => by exact pv 2)))), ?_⟩
    refine rd_blades W rfl ⟨r.lb, _, rfl, SqL.of W.lst, fun D hD => lc_enumL r.as V.ref (fun i => Kqv5.isFree h i && Kqv5.kind h i == n) (fun i => V.int ((i : Nat) : Int)) hD (SqL.of W.lst) (by rw [W.alen]; omega) (fun i z H2 t Tr Fa hz hs ht h1 h2 => ?_) (fun H2 s2 hD2 => ?_)⟩
    · refine ⟨t, _, rfl, SqT.of ht, rfl, _, _, rfl, _, _, rfl, rfl, rfl, ?_⟩
      have hi : i < h.blades.length := by rw [← W.alen]; exact (List.getElem?_eq_some_iff.mp hz).1
      obtain ⟨a, b, ha, hb, Bl⟩ := (W.same hs).get hi
      rw [hz] at ha
      cases ha
      obtain ⟨dx, hdx⟩ := id Bl
      refine ⟨_, rfl, z, _, dx, _, _, rfl, hdx, T.cl_Blade, T.na_Blade_kind, bf_kind b, _, rfl, rfl, _, rfl, ?_⟩
      have ek : decide (V.int ((b.kind : Nat) : Int) = V.int ((n : Nat) : Int)) = (Kqv5.kind h i == n) := by
        rw [M.kind_of hb, Bool.eq_iff_iff, decide_eq_true_eq, beq_iff_eq]
        constructor
        · intro q; injection q with q; omega
        · intro q; rw [q]
      rw [ek]
      cases c : (Kqv5.kind h i == n) with
      | false =>
        refine iteF (iteF (h2 ?_ H2 (Same.refl _)))
        rw [c, Bool.and_false]
      | true =>
        refine iteT ⟨_, rfl, z, dx, _, rfl, hdx, rfl, z, b, rfl, Bl, _, rfl, ?_⟩
        rw [← M.free_of hb]
        cases c2 : Kqv5.isFree h i with
        | false =>
          refine iteF (h2 ?_ H2 (Same.refl _))
          rw [c2]; rfl
        | true =>
          refine iteT ⟨_, rfl, h1 ?_ H2 (Same.refl _)⟩
          rw [c2, c]; rfl
    · refine k H2 D s2 hD ?_
      rw [hD2, vn_map, W.alen]
      rfl
def sp_Works_may_be_set (T : Txt K mg) : Sp := fun vs H Q _ => ∃ (wk p : Addr) (r : Rep) (st : Bool) (h : Hall) (l : List Nat), vs = [.ref wk, .ref p] ∧ WA T H wk r st h ∧ M.Wf h ∧ H p = some (.lst (vn l)) ∧ l ≠ [] ∧ l.length ≤ 100 ∧ (∀ i ∈ l, i < h.blades.length) ∧
  ∀ H', Same H H' → Q (.bl (Kqv5.may h l)) H'
theorem ok_Works_may_be_set (T : Txt K mg) : FnOk P w K mg base CX0 4 T.f_Works_may_be_set T.fd_Works_may_be_set ["self", "numbers"] (sp_Works_may_be_set T) := by
  refine T.F_Works_may_be_set.ok sc_Works_may_be_set (fun vs H Q E h => ?_) (fun cdv A outer s H vs Q E hr h => ?_)
  · obtain ⟨wk, p, r, st, h, l, rfl, _⟩ := h
    rfl
  · obtain ⟨wk, p, r, st, h, l, rfl, W, wfh, hp, hne, hlen, hv, k⟩ := h
    refine ⟨_, (pss_one (ps_ret (pe_cmpR op_le (pe_op op_mul (pe_callB (cr_max rfl) (by rfl) T.no_max boot_maxB (pa_cons (pe_meth (pv 0) T.cl_Works T.m_Works_units_for (ok_Works_units_for T) (hr.mono (by decide)) T.b_Works_units_for .nil pass0 (pa_cons (pv 1) pa_nil)) pa_nil)) (pe_fld (pv 0) rfl)) (pe_fld (pv 0) rfl) (nomark _)))), ?_⟩
    refine ⟨_, rfl, wk, _, _, rfl, W.ob, rfl, _, rfl, wk, p, r, st, h, l, rfl, W, wfh, hp, hne, hlen, hv, fun H1 q s1 hq hq1 => ?_⟩
    have W1 := W.same s1
    refine ⟨q, Kqv5.nats (Kqv5.needs h.unit (l.map (Kqv5.full h))), rfl, SqL.of hq1, ?_, fun m hm hmax => rd_unit W1 rfl ⟨_, _, rfl, rfl, .inr ⟨?_, ?_⟩, rd_most W1 rfl ⟨_, _, rfl, rfl, ?_⟩⟩⟩
    · rw [nats_len]
      unfold Kqv5.needs
      rw [List.length_map, List.length_map]
      exact List.length_pos_iff.mpr hne
    · have := wfh.unit; omega
    · have := wfh.unit; omega
    obtain ⟨M0, hM0, rfl⟩ := List.mem_map.mp hm
    have e : decide ((M0 : Int) * ((h.unit : Nat) : Int) ≤ ((h.most : Nat) : Int)) = Kqv5.may h l := by
      unfold Kqv5.may
      rw [Bool.eq_iff_iff, decide_eq_true_eq, List.all_eq_true]
      have c : (M0 : Int) * ((h.unit : Nat) : Int) = ((M0 * h.unit : Nat) : Int) := by simp
      rw [c]
      constructor
      · intro z x hx
        have := hmax x (List.mem_map_of_mem (f := fun (x : Nat) => (x : Int)) hx)
        have m2 : x * h.unit ≤ M0 * h.unit := Nat.mul_le_mul_right _ (by omega)
        rw [decide_eq_true_eq]
        omega
      · intro z
        have := z M0 hM0
        rw [decide_eq_true_eq] at this
        omega
    show Q (V.bl (decide ((M0 : Int) * ((h.unit : Nat) : Int) ≤ ((h.most : Nat) : Int)))) H1
    rw [e]
    exact k H1 s1
end
end B
namespace L2
open PySem PySem.Spec PyProof.Rows
/-- for x, y in zip(.., ..), both lists as long -/
theorem for_zipL {α : Type} {K : PySem.W.Frag} {a b : Addr} (L : List α) (e1 e2 : α → V) {g : TG} {tb : TS} {D : Ends} {σ : L2.St} {H : Hp} (Pv : Nat → L2.St → Hp → Prop) (h0 : Pv 0 σ H) (hl : ∀ i σ H, Pv i σ H → SqL K H a (L.map e1) ∧ SqL K H b (L.map e2))
    (hs : ∀ i z σ H t, L[i]? = some z → Pv i σ H → H t = none → g (.ref t) σ (upd H t (.tup [e1 z, e2 z])) fun σ2 H2 => tb { D with nx := Pv (i + 1), ct := Pv (i + 1), bk := D.nx } σ2 H2) (hd : ∀ σ H, Pv L.length σ H → D.nx σ H) :
    ∃ W : Nat → Nat → L2.St → Hp → Prop, (∃ m, W 0 m σ H) ∧ ∀ i m σ H, W i m σ H →
      ((Itz K a b).stop i H ∧ D.nx σ H) ∨ ((Itz K a b).go i H ∧ ∃ N : L2.St → Hp → Prop, (∀ σ' H', N σ' H' → ∃ m', m' < m ∧ W (i + 1) m' σ' H') ∧ ∀ x H', (Itz K a b).yld i H x H' → g x σ H' fun σ2 H2 => tb { D with nx := N, ct := N, bk := D.nx } σ2 H2) := by
  refine ⟨fun i m σ H => m = L.length - i ∧ i ≤ L.length ∧ Pv i σ H, ⟨L.length, by simp, Nat.zero_le _, h0⟩, ?_⟩
  rintro i m σ H ⟨rfl, hi, p⟩
  obtain ⟨q1, q2⟩ := hl i σ H p
  by_cases hlt : i < L.length
  · refine .inr ⟨⟨L.map e1, L.map e2, e1 L[i], e2 L[i], q1, q2, by simp [hlt], by simp [hlt]⟩, Pv (i + 1), fun σ' H' p' => ⟨L.length - (i + 1), by omega, rfl, hlt, p'⟩, fun x H' y => ?_⟩
    obtain ⟨t, u, v, rfl, ht, rfl, y1, y2⟩ := y
    obtain ⟨z, hz, rfl⟩ := at_map (y1 _ q1)
    obtain ⟨z2, hz2, rfl⟩ := at_map (y2 _ q2)
    rw [hz] at hz2
    cases hz2
    exact hs i z σ H t hz p ht
  · have e : i = L.length := by omega
    subst e
    exact .inl ⟨⟨L.map e1, L.map e2, q1, q2, .inl (by simp)⟩, hd σ H p⟩
end L2
namespace B
open PySem PySem.Spec PyProof.Rows L2
open Kqv5 (Hall)
section
variable {P : Program} {w : World} {K : PySem.W.Frag} {mg : Str → Option Value} {base : Heap}
variable {T : Txt K mg} {H H' : Hp} {wk : Addr} {r : Rep} {st : Bool} {h : Hall}
/-- all but the blades stand as they stood -/
def KeepB (r : Rep) (H H' : Hp) : Prop := ∀ c o, H c = some o → c ∉ r.as → H' c = some o
theorem wf_bf {st : Bool} {h : Hall} {lb dt : Addr} {b : Kqv5.Blade} : wf st h lb dt ≠ bf b := fun e => by
  have := congrArg (fun l => l.lookup ("kind" : Str)) e
  exact nomatch (show (none : Option V) = some (V.int (b.kind : Nat)) from this)
theorem WA.mem (W : WA T H wk r st h) {a : Addr} (ha : a ∈ r.as) : ∃ (i : Nat) (b : Kqv5.Blade), r.as[i]? = some a ∧ h.blades[i]? = some b ∧ BladeAt T H a b := by
  obtain ⟨i, hi⟩ := List.getElem?_of_mem ha
  have hl : i < h.blades.length := by rw [← W.alen]; exact (List.getElem?_eq_some_iff.mp hi).1
  exact ⟨i, _, hi, List.getElem?_eq_getElem hl, W.bl i a _ hi (List.getElem?_eq_getElem hl)⟩
/-- what is no blade's instance is none of the blades -/
theorem WA.out (W : WA T H wk r st h) {c : Addr} {o : HO} (e : H c = some o) (n : ∀ C dx b, o ≠ .ins C dx (bf b)) : c ∉ r.as := fun ha => by
  obtain ⟨i, b, _, _, dx, q⟩ := W.mem ha
  rw [e] at q
  exact n _ _ _ (Option.some.inj q)
theorem WA.out_lst (W : WA T H wk r st h) {c : Addr} {xs : List V} (e : H c = some (.lst xs)) : c ∉ r.as := W.out e fun _ _ _ q => nomatch q
theorem WA.out_dct (W : WA T H wk r st h) {c : Addr} {xs : List (Key × V)} (e : H c = some (.dK xs)) : c ∉ r.as := W.out e fun _ _ _ q => nomatch q
theorem WA.out_wk (W : WA T H wk r st h) : wk ∉ r.as := W.out W.ob fun C dx b q => by injection q with _ _ q; exact wf_bf q
/-- one blade is another now -/
theorem WA.blade (W : WA T H wk r st h) {i : Nat} {a : Addr} {b b' : Kqv5.Blade} (hi : r.as[i]? = some a) (hb : h.blades[i]? = some b) (hB : BladeAt T H' a b') (kp : ∀ c o, H c = some o → c ≠ a → H' c = some o) :
    WA T H' wk r st { h with blades := h.blades.set i b' } := by
  have am : a ∈ r.as := List.mem_of_getElem? hi
  have ne : ∀ {c : Addr}, c ∉ r.as → c ≠ a := fun z q => z (by rw [q]; exact am)
  refine ⟨kp _ _ W.ob (ne W.out_wk), kp _ _ W.lst (ne (W.out_lst W.lst)), by rw [W.alen]; simp, W.and_, fun j c b2 h1 h2 => ?_, kp _ _ W.dct (ne (W.out_dct W.dct)), W.kn, W.ln, W.lbn, fun p hp => ?_, W.sk⟩
  · have h2 : (h.blades.set i b')[j]? = some b2 := h2
    rw [M.set_at _ _ b _ hb] at h2
    obtain ⟨b0, q0, e⟩ := Option.map_eq_some_iff.mp h2
    by_cases c1 : j = i
    · subst c1
      rw [hi] at h1
      cases h1
      rw [if_pos rfl] at e
      subst e
      exact hB
    · rw [if_neg c1] at e
      subst e
      have nca : c ≠ a := fun q => c1 (nd_ix W.and_ h1 (by rw [q]; exact hi))
      obtain ⟨dx, q⟩ := W.bl j c b0 h1 q0
      exact ⟨dx, kp _ _ q nca⟩
  · obtain ⟨t, h1, h2⟩ := W.ks p hp
    exact ⟨t, h1, kp _ _ h2 (ne (W.out_lst h2))⟩
/-- units added one behind another -/
def evn (u : Nat) : List (Nat × Nat) → List Kqv5.Blade → List Kqv5.Blade
  | [], bs => bs
  | (i, n) :: ps, bs => evn u ps (bs.modify i fun b => { b with added := b.added + n * u })
theorem evn_snoc (u : Nat) (i n : Nat) : ∀ (ps : List (Nat × Nat)) (bs : List Kqv5.Blade), evn u (ps ++ [(i, n)]) bs = (evn u ps bs).modify i fun b => { b with added := b.added + n * u }
  | [], bs => rfl
  | (j, m) :: ps, bs => evn_snoc u i n ps _
theorem evn_len (u : Nat) : ∀ (ps : List (Nat × Nat)) (bs : List Kqv5.Blade), (evn u ps bs).length = bs.length
  | [], bs => rfl
  | (j, m) :: ps, bs => by
    show (evn u ps _).length = _
    rw [evn_len u ps, List.length_modify]
theorem evn_at (u : Nat) (f : Nat → Nat) : ∀ (l : List Nat), l.Nodup → ∀ (bs : List Kqv5.Blade) (j : Nat), (evn u (l.map fun i => (i, f i)) bs)[j]? = (bs[j]?).map fun b => if j ∈ l then { b with added := b.added + f j * u } else b
  | [], _, bs, j => by
    show bs[j]? = _
    cases bs[j]? <;> rfl
  | i :: l, nd, bs, j => by
    obtain ⟨n1, n2⟩ := List.nodup_cons.mp nd
    show (evn u (l.map fun i => (i, f i)) (bs.modify i fun b => { b with added := b.added + f i * u }))[j]? = _
    rw [evn_at u f l n2, List.getElem?_modify]
    cases bs[j]? with
    | none => split <;> rfl
    | some b =>
      by_cases c : i = j
      · subst c
        simp [n1]
      · have c' : ¬ j = i := fun z => c z.symm
        simp [c, c']
theorem adds_evn (h : Hall) (l : List Nat) (nd : l.Nodup) : Kqv5.adds h l = evn h.unit (l.map fun i => (i, (Kqv5.greatest (l.map (Kqv5.full h)) - Kqv5.full h i) / h.unit)) h.blades := by
  apply List.ext_getElem?
  intro j
  rw [M.adds_at, evn_at _ _ l nd]
  cases h.blades[j]? with
  | none => rfl
  | some b => simp
theorem modify_set (bs : List Kqv5.Blade) (i : Nat) (b : Kqv5.Blade) (f : Kqv5.Blade → Kqv5.Blade) (e : bs[i]? = some b) : bs.modify i f = bs.set i (f b) := by
  apply List.ext_getElem?
  intro j
  rw [List.getElem?_modify, M.set_at bs i b _ e]
  by_cases c : i = j
  · subst c; rw [e]; simp
  · have c' : ¬ j = i := fun z => c z.symm
    simp [c, c']
def sp_Works_even_out (T : Txt K mg) : Sp := fun vs H Q _ => ∃ (wk p : Addr) (r : Rep) (st : Bool) (h : Hall) (l : List Nat), vs = [.ref wk, .ref p] ∧ WA T H wk r st h ∧ M.Wf h ∧ H p = some (.lst (vn l)) ∧ l ≠ [] ∧ l.Nodup ∧ l.length ≤ 100 ∧ (∀ i ∈ l, i < h.blades.length) ∧
  ∀ H', WA T H' wk r st { h with blades := Kqv5.adds h l } → KeepB r H H' → Q .non H'
theorem ok_Works_even_out (T : Txt K mg) : FnOk P w K mg base CX0 4 T.f_Works_even_out T.fd_Works_even_out ["self", "numbers"] (sp_Works_even_out T) := by
  refine T.F_Works_even_out.ok sc_Works_even_out (fun vs H Q E h => ?_) (fun cdv A outer s H vs Q E hr h => ?_)
  · obtain ⟨wk, p, r, st, h, l, rfl, _⟩ := h
    rfl
  · obtain ⟨wk, p, r, st, h, l, rfl, W, wfh, hp, hne, nd, hlen, hv, k⟩ := h
    refine ⟨_, (pss_one (ps_for PassesOwn.never rfl (pi_zip (by rfl) T.no_zip (pa_cons (pv 1) (pa_cons (pe_meth (pv 0) T.cl_Works T.m_Works_units_for (ok_Works_units_for T) (hr.mono (by decide)) T.b_Works_units_for .nil pass0 (pa_cons (pv 1) pa_nil)) pa_nil))) (pg_tup rfl (pgs_cons (pg_name (i := 2) sc_Works_even_out.nd rfl (by first | exact Or.inl rfl | exact Or.inr rfl)) (pgs_cons (pg_name (i := 3) sc_Works_even_out.nd rfl (by first | exact Or.inl rfl | exact Or.inr rfl)) pgs_nil))) (pss_cons (ps_set (i := 4) sc_Works_even_out.nd rfl (by first | exact Or.inl rfl | exact Or.inr rfl) (pe_ix ix_list (pe_fld (pv 0) rfl) (pv 2) (fun _ _ => rfl)))
      (pss_one (ps_fldaug (pv 4) (pe_op op_mul (pv 3) (pe_fld (pv 0) rfl)) in_add))))), ?_⟩
    refine ⟨_, rfl, _, rfl, wk, _, _, rfl, W.ob, rfl, _, rfl, wk, p, r, st, h, l, rfl, W, wfh, hp, hne, hlen, hv, fun H1 q s1 hq hq1 => ?_⟩
    have W1 := W.same s1
    have hp1 : SqL K H1 p (vn l) := SqL.of (s1 _ _ hp)
    have en : vn (Kqv5.needs h.unit (l.map (Kqv5.full h))) = l.map fun i => V.int (((Kqv5.greatest (l.map (Kqv5.full h)) - Kqv5.full h i) / h.unit : Nat) : Int) := by
      rw [vn_map]; unfold Kqv5.needs; rw [List.map_map, List.map_map]; rfl
    rw [en] at hq1
    have hp1' := s1 _ _ hp
    rw [vn_map] at hp1'
    refine ⟨p, q, _, _, rfl, SqL.of hp1', SqL.of hq1, for_zipL l (fun n => V.int ((n : Nat) : Int)) (fun i => V.int (((Kqv5.greatest (l.map (Kqv5.full h)) - Kqv5.full h i) / h.unit : Nat) : Int))
      (fun i σ H2 => ∃ v2 v3 v4, σ = [some (.ref wk), some (.ref p), v2, v3, v4] ∧ WA T H2 wk r st { h with blades := evn h.unit ((l.take i).map fun i => (i, (Kqv5.greatest (l.map (Kqv5.full h)) - Kqv5.full h i) / h.unit)) h.blades } ∧ KeepB r H1 H2)
      ⟨_, _, _, rfl, W1, fun _ _ e _ => e⟩ (fun i σ H2 hI => ?_) (fun i z σ H2 t hz hI ht => ?_) (fun σ H2 hI => ?_)⟩
    · obtain ⟨_, _, _, _, _, kp⟩ := hI
      exact ⟨SqL.of (kp _ _ hp1' (W1.out_lst hp1')), SqL.of (kp _ _ hq1 (W1.out_lst hq1))⟩
    · obtain ⟨v2, v3, v4, rfl, W2, kp⟩ := hI
      have st2 : Same H2 (upd H2 t (.tup [V.int ((z : Nat) : Int), V.int (((Kqv5.greatest (l.map (Kqv5.full h)) - Kqv5.full h z) / h.unit : Nat) : Int)])) := fun b u q => by rw [upd_ne (ne_of_none q ht)]; exact q
      refine ⟨t, _, rfl, SqT.of upd_same, rfl, _, _, rfl, _, _, rfl, rfl, ?_⟩
      have W3 := W2.same st2
      obtain ⟨a, b, ha, hb, dx, hdx⟩ := W3.get (i := z) (by show z < (evn _ _ _).length; rw [evn_len]; exact hv z (List.mem_of_getElem? hz))
      have hb : (evn h.unit ((l.take i).map fun i => (i, (Kqv5.greatest (l.map (Kqv5.full h)) - Kqv5.full h i) / h.unit)) h.blades)[z]? = some b := hb
      refine rd_blade W3 rfl ha (fun Q' q => ⟨_, rfl, q⟩) ?_
      refine ⟨_, rfl, a, _, dx, _, _, rfl, hdx, T.cl_Blade, T.na_Blade_added, bf_added b, _, rfl, rd_unit W3 rfl ⟨_, _, rfl, rfl, .inr ⟨?_, ?_⟩, _, _, rfl, rfl, dx, _, hdx, by show 5 < 1000; decide, ?_⟩⟩
      · have := wfh.unit; show -(2 ^ 64) < ((h.unit : Nat) : Int); omega
      · have := wfh.unit; show ((h.unit : Nat) : Int) < 2 ^ 64; omega
      refine ⟨_, _, _, rfl, ?_, ?_⟩
      · have W4 := W3.blade (b' := { b with added := b.added + (Kqv5.greatest (l.map (Kqv5.full h)) - Kqv5.full h z) / h.unit * h.unit }) ha hb ⟨dx, upd_same⟩ (fun c o e n => by rw [upd_ne n]; exact e)
        have e1 : evn h.unit ((l.take (i + 1)).map fun i => (i, (Kqv5.greatest (l.map (Kqv5.full h)) - Kqv5.full h i) / h.unit)) h.blades = (evn h.unit ((l.take i).map fun i => (i, (Kqv5.greatest (l.map (Kqv5.full h)) - Kqv5.full h i) / h.unit)) h.blades).set z { b with added := b.added + (Kqv5.greatest (l.map (Kqv5.full h)) - Kqv5.full h z) / h.unit * h.unit } := by
          rw [take_snoc hz, List.map_append]
          show evn h.unit (_ ++ [(z, _)]) h.blades = _
          rw [evn_snoc, modify_set _ _ b _ hb]
        rw [e1]
        exact W4
      · intro c o e n
        rw [upd_ne (fun z => n (by rw [z]; exact List.mem_of_getElem? ha))]
        exact st2 _ _ (kp c o e n)
    · obtain ⟨v2, v3, v4, rfl, W2, kp⟩ := hI
      rw [List.take_length, ← adds_evn h l nd] at W2
      exact k H2 W2 fun c o e n => kp c o (s1 _ _ e) n
end
end B
namespace B
open PySem PySem.Spec PyProof.Rows L2
open Kqv5 (Hall)
section
variable {P : Program} {w : World} {K : PySem.W.Frag} {mg : Str → Option Value} {base : Heap}
variable {T : Txt K mg} {H H' : Hp} {wk : Addr} {r : Rep} {st : Bool} {h : Hall}
def sp_Blade_init (T : Txt K mg) : Sp := fun vs H Q _ => ∃ (x dx : Addr) (k m : Nat), vs = [.ref x, .int (k : Nat), .int (m : Nat)] ∧ H x = some (.ins T.C_Blade dx []) ∧
  ∀ H', BladeAt T H' x ⟨k, m, 0, 0, false⟩ → (∀ b o, H b = some o → b ≠ x → H' b = some o) → Q .non H'
theorem ok_Blade_init (T : Txt K mg) : FnOk P w K mg base CX0 1 T.f_Blade_init T.fd_Blade_init ["self", "kind", "moment"] (sp_Blade_init T) := by
  refine T.F_Blade_init.ok sc_Blade_init (fun vs H Q E h => ?_) (fun cdv A outer s H vs Q E hr h => ?_)
  · obtain ⟨x, dx, k, m, rfl, _⟩ := h
    rfl
  · obtain ⟨x, dx, kd, m, rfl, hx, k⟩ := h
    refine ⟨_, (pss_cons (ps_fld (pv 0) (pv 1) rfl)
      (pss_cons (ps_fld (pv 0) (pv 2) rfl)
      (pss_cons (ps_fld (pv 0) (pe_int) rfl)
      (pss_cons (ps_fld (pv 0) (pe_bl) rfl)
      (pss_one (ps_fld (pv 0) (pe_int) rfl)))))), ?_⟩
    refine ⟨_, rfl, _, rfl, x, _, dx, _, rfl, hx, T.cl_Blade, T.na_Blade_kind, by show 0 < 1000; decide, ?_⟩
    refine ⟨_, rfl, _, rfl, x, _, dx, _, rfl, upd_same, T.cl_Blade, T.na_Blade_moment, by show 1 < 1000; decide, ?_⟩
    refine ⟨_, rfl, x, _, dx, _, rfl, upd_same, T.cl_Blade, T.na_Blade_added, by show 2 < 1000; decide, ?_⟩
    refine ⟨_, rfl, x, _, dx, _, rfl, upd_same, T.cl_Blade, T.na_Blade_gone, by show 3 < 1000; decide, ?_⟩
    refine ⟨_, rfl, x, _, dx, _, rfl, upd_same, T.cl_Blade, T.na_Blade_set_and_one, by show 4 < 1000; decide, ?_⟩
    exact k _ ⟨dx, upd_same⟩ fun b o e n => by rw [upd_ne n, upd_ne n, upd_ne n, upd_ne n, upd_ne n]; exact e
def sp_Blade_weigh_anew (T : Txt K mg) : Sp := fun vs H Q _ => ∃ (a : Addr) (b : Kqv5.Blade) (m : Nat), vs = [.ref a, .int (m : Nat)] ∧ BladeAt T H a b ∧
  ∀ H', BladeAt T H' a { b with moment := m, added := 0 } → (∀ c o, H c = some o → c ≠ a → H' c = some o) → Q .non H'
theorem ok_Blade_weigh_anew (T : Txt K mg) : FnOk P w K mg base CX0 1 T.f_Blade_weigh_anew T.fd_Blade_weigh_anew ["self", "moment"] (sp_Blade_weigh_anew T) := by
  refine T.F_Blade_weigh_anew.ok sc_Blade_weigh_anew (fun vs H Q E h => ?_) (fun cdv A outer s H vs Q E hr h => ?_)
  · obtain ⟨a, b, m, rfl, _⟩ := h
    rfl
  · obtain ⟨a, b, m, rfl, ⟨dx, ha⟩, k⟩ := h
    refine ⟨_, (pss_cons (ps_fld (pv 0) (pv 1) rfl)
      (pss_one (ps_fld (pv 0) (pe_int) rfl))), ?_⟩
    refine ⟨_, rfl, _, rfl, a, _, dx, _, rfl, ha, T.cl_Blade, T.na_Blade_moment, by show 5 < 1000; decide, ?_⟩
    refine ⟨_, rfl, a, _, dx, _, rfl, upd_same, T.cl_Blade, T.na_Blade_added, by show 5 < 1000; decide, ?_⟩
    exact k _ ⟨dx, upd_same⟩ fun b o e n => by rw [upd_ne n, upd_ne n]; exact e
/-- an empty hall -/
theorem WA.empty {dw lb dt : Addr} {m u : Nat} (e1 : H wk = some (.ins T.C_Works dw (wf st ⟨m, u, [], []⟩ lb dt))) (e2 : H lb = some (.lst [])) (e3 : H dt = some (.dK [])) : WA T H wk ⟨dw, lb, dt, [], []⟩ st ⟨m, u, [], []⟩ :=
  ⟨e1, e2, rfl, List.nodup_nil, fun j a b h1 => by simp at h1, e3, List.nodup_nil, List.nodup_nil, by simp, fun p hp => by simp at hp, fun s t q => by simp at q⟩
def sp_Works_init (T : Txt K mg) : Sp := fun vs H Q _ => ∃ (x dx : Addr), vs = [.ref x] ∧ H x = some (.ins T.C_Works dx []) ∧
  ∀ H' lb dt, WA T H' x ⟨dx, lb, dt, [], []⟩ false ⟨0, 1, [], []⟩ → H lb = none → H dt = none → (∀ b o, H b = some o → b ≠ x → H' b = some o) → Q .non H'
theorem ok_Works_init (T : Txt K mg) : FnOk P w K mg base CX0 1 T.f_Works_init T.fd_Works_init ["self"] (sp_Works_init T) := by
  refine T.F_Works_init.ok sc_Works_init (fun vs H Q E h => ?_) (fun cdv A outer s H vs Q E hr h => ?_)
  · obtain ⟨x, dx, rfl, _⟩ := h
    rfl
  · obtain ⟨x, dx, rfl, hx, k⟩ := h
    refine ⟨_, (pss_cons (ps_fld (pv 0) (pe_bl) rfl)
      (pss_cons (ps_fld (pv 0) (pe_int) rfl)
      (pss_cons (ps_fld (pv 0) (pe_int) rfl)
      (pss_cons (ps_fld (pv 0) (pe_lst (pa_nil)) rfl)
      (pss_one (ps_fld (pv 0) (pe_dnewK) rfl)))))), ?_⟩
    refine ⟨_, rfl, x, _, dx, _, rfl, hx, T.cl_Works, T.na_Works_started, by show 0 < 1000; decide, ?_⟩
    refine ⟨_, rfl, x, _, dx, _, rfl, upd_same, T.cl_Works, T.na_Works_most, by show 1 < 1000; decide, ?_⟩
    refine ⟨_, rfl, x, _, dx, _, rfl, upd_same, T.cl_Works, T.na_Works_unit, by show 2 < 1000; decide, ?_⟩
    refine ⟨Nat.zero_le _, fun lb hlb => ?_⟩
    have n1 : x ≠ lb := ne_of_none upd_same hlb
    refine ⟨_, rfl, x, _, dx, _, rfl, by rw [upd_ne n1]; exact upd_same, T.cl_Works, T.na_Works_blades, by show 3 < 1000; decide, ?_⟩
    intro dt hdt
    have n2 : x ≠ dt := ne_of_none upd_same hdt
    have n3 : lb ≠ dt := fun z => by
      rw [← z, upd_ne n1.symm, upd_same] at hdt
      cases hdt
    refine ⟨_, rfl, x, _, dx, _, rfl, by rw [upd_ne n2]; exact upd_same, T.cl_Works, T.na_Works_trios, by show 4 < 1000; decide, ?_⟩
    have hlb0 : H lb = none := by rw [upd_ne n1.symm, upd_ne n1.symm, upd_ne n1.symm] at hlb; exact hlb
    have hdt0 : H dt = none := by rw [upd_ne n2.symm, upd_ne n3.symm, upd_ne n2.symm, upd_ne n2.symm, upd_ne n2.symm] at hdt; exact hdt
    refine k _ lb dt (WA.empty upd_same ?_ ?_) hlb0 hdt0 fun b o e n => ?_
    · rw [upd_ne n1.symm, upd_ne n3, upd_ne n1.symm, upd_same]
    · rw [upd_ne n2.symm, upd_same]
    · rw [upd_ne n, upd_ne (ne_of_none e hdt0), upd_ne n, upd_ne (ne_of_none e hlb0), upd_ne n, upd_ne n, upd_ne n]; exact e
def sp_Works_begin (T : Txt K mg) : Sp := fun vs H Q _ => ∃ (wk : Addr) (r : Rep) (st : Bool) (h : Hall) (m u : Nat), vs = [.ref wk, .int (m : Nat), .int (u : Nat)] ∧ WA T H wk r st h ∧
  ∀ H' lb dt, WA T H' wk ⟨r.dw, lb, dt, [], []⟩ true ⟨m, u, [], []⟩ → H lb = none → H dt = none → (∀ b o, H b = some o → b ≠ wk → H' b = some o) → Q .non H'
theorem ok_Works_begin (T : Txt K mg) : FnOk P w K mg base CX0 1 T.f_Works_begin T.fd_Works_begin ["self", "most", "unit"] (sp_Works_begin T) := by
  refine T.F_Works_begin.ok sc_Works_begin (fun vs H Q E h => ?_) (fun cdv A outer s H vs Q E hr h => ?_)
  · obtain ⟨wk, r, st, h, m, u, rfl, _⟩ := h
    rfl
  · obtain ⟨x, r, st, h, m, u, rfl, W, k⟩ := h
    refine ⟨_, (pss_cons (ps_fld (pv 0) (pe_bl) rfl)
      (pss_cons (ps_fld (pv 0) (pv 1) rfl)
      (pss_cons (ps_fld (pv 0) (pv 2) rfl)
      (pss_cons (ps_fld (pv 0) (pe_lst (pa_nil)) rfl)
      (pss_one (ps_fld (pv 0) (pe_dnewK) rfl)))))), ?_⟩
    refine ⟨_, rfl, x, _, r.dw, _, rfl, W.ob, T.cl_Works, T.na_Works_started, by show 5 < 1000; decide, ?_⟩
    refine ⟨_, rfl, _, rfl, x, _, r.dw, _, rfl, upd_same, T.cl_Works, T.na_Works_most, by show 5 < 1000; decide, ?_⟩
    refine ⟨_, rfl, _, rfl, x, _, r.dw, _, rfl, upd_same, T.cl_Works, T.na_Works_unit, by show 5 < 1000; decide, ?_⟩
    refine ⟨Nat.zero_le _, fun lb hlb => ?_⟩
    have n1 : x ≠ lb := ne_of_none upd_same hlb
    refine ⟨_, rfl, x, _, r.dw, _, rfl, by rw [upd_ne n1]; exact upd_same, T.cl_Works, T.na_Works_blades, by show 5 < 1000; decide, ?_⟩
    intro dt hdt
    have n2 : x ≠ dt := ne_of_none upd_same hdt
    have n3 : lb ≠ dt := fun z => by
      rw [← z, upd_ne n1.symm, upd_same] at hdt
      cases hdt
    refine ⟨_, rfl, x, _, r.dw, _, rfl, by rw [upd_ne n2]; exact upd_same, T.cl_Works, T.na_Works_trios, by show 5 < 1000; decide, ?_⟩
    have hlb0 : H lb = none := by rw [upd_ne n1.symm, upd_ne n1.symm, upd_ne n1.symm] at hlb; exact hlb
    have hdt0 : H dt = none := by rw [upd_ne n2.symm, upd_ne n3.symm, upd_ne n2.symm, upd_ne n2.symm, upd_ne n2.symm] at hdt; exact hdt
    refine k _ lb dt (WA.empty upd_same ?_ ?_) hlb0 hdt0 fun b o e n => ?_
    · rw [upd_ne n1.symm, upd_ne n3, upd_ne n1.symm, upd_same]
    · rw [upd_ne n2.symm, upd_same]
    · rw [upd_ne n, upd_ne (ne_of_none e hdt0), upd_ne n, upd_ne (ne_of_none e hlb0), upd_ne n, upd_ne n, upd_ne n]; exact e
def sp_Works_take_in (T : Txt K mg) : Sp := fun vs H Q _ => ∃ (wk : Addr) (r : Rep) (st : Bool) (h : Hall) (k m : Nat), vs = [.ref wk, .int (k : Nat), .int (m : Nat)] ∧ WA T H wk r st h ∧ h.blades.length ≤ 20 ∧
  ∀ H' x, WA T H' wk { r with as := r.as ++ [x] } st { h with blades := h.blades ++ [⟨k, m, 0, 0, false⟩] } → H x = none → (∀ b o, H b = some o → b ≠ r.lb → H' b = some o) → Q (.int (h.blades.length : Nat)) H'
theorem ok_Works_take_in (T : Txt K mg) : FnOk P w K mg base CX0 3 T.f_Works_take_in T.fd_Works_take_in ["self", "kind", "moment"] (sp_Works_take_in T) := by
  refine T.F_Works_take_in.ok sc_Works_take_in (fun vs H Q E h => ?_) (fun cdv A outer s H vs Q E hr h => ?_)
  · obtain ⟨wk, r, st, h, k, m, rfl, _⟩ := h
    rfl
  · obtain ⟨wk, r, st, h, kd, m, rfl, W, hlen, k⟩ := h
    refine ⟨_, (pss_cons (ps_expr (pe_bm PySem.F.plainAttrs_list PySem.F.slot_list_append PySem.F.type_list_append mt_append (pe_fld (pv 0) rfl) (pa_cons (pe_make T.mk_Blade (ok_Blade_init T) (hr.mono (by decide)) (by rfl) T.mg_Blade T.b_Blade_init .nil pass0 (pa_cons (pv 1) (pa_cons (pv 2) pa_nil))) pa_nil)))
      (pss_one (ps_ret (pe_op op_sub (pe_callB call_len_seq (by rfl) T.no_len PySem.boot_len (pa_cons (pe_fld (pv 0) rfl) pa_nil)) (pe_int))))), ?_⟩
    refine ⟨_, rfl, wk, _, _, _, _, rfl, W.ob, T.cl_Works, T.na_Works_blades, rfl, .inl ⟨rfl, _, SqL.of W.lst⟩, _, rfl, _, rfl, fun x dx hx hdx ndx => ⟨x, dx, kd, m, rfl, upd_same, fun H1 B1 kp1 => ⟨rfl, ?_⟩⟩⟩
    have s1 : Same H H1 := Same.made hx hdx kp1
    have W1 := W.same s1
    refine ⟨r.lb, _, _, rfl, rfl, W1.lst, ?_, ?_⟩
    · rw [List.length_map, W.alen]; exact Nat.lt_of_le_of_lt hlen (by decide)
    obtain ⟨dx1, q1⟩ := B1
    have nx : x ∉ r.as := fun z => by
      obtain ⟨i, b, _, _, d, q⟩ := W.mem z
      rw [hx] at q; cases q
    have nl : ∀ {c : Addr} {o : HO}, H1 c = some o → (∀ xs, o ≠ .lst xs) → c ≠ r.lb := fun e n z => by
      rw [z, W1.lst] at e; cases e; exact n _ rfl
    have kp : ∀ b o, H1 b = some o → b ≠ r.lb → upd H1 r.lb (.lst (r.as.map V.ref ++ [V.ref x])) b = some o := fun b o e n => by rw [upd_ne n]; exact e
    have W2 : WA T (upd H1 r.lb (.lst (r.as.map V.ref ++ [V.ref x]))) wk { r with as := r.as ++ [x] } st { h with blades := h.blades ++ [⟨kd, m, 0, 0, false⟩] } := by
      refine ⟨kp _ _ W1.ob (nl W1.ob fun _ z => nomatch z), ?_, ?_, nd_snoc W.and_ nx, fun j a b h1 h2 => ?_, kp _ _ W1.dct (nl W1.dct fun _ z => nomatch z), W.kn, W.ln, W.lbn, fun p hp => ?_, W.sk⟩
      · show upd H1 r.lb _ r.lb = some (.lst ((r.as ++ [x]).map V.ref))
        rw [upd_same, List.map_append]; rfl
      · show (r.as ++ [x]).length = (h.blades ++ [_]).length
        rw [List.length_append, List.length_append, W.alen]; rfl
      · have h1 : (r.as ++ [x])[j]? = some a := h1
        have h2 : (h.blades ++ [⟨kd, m, 0, 0, false⟩])[j]? = some b := h2
        have al := W.alen
        rcases (M.snoc_at _ _ j a).mp h1 with z1 | ⟨z1, rfl⟩
        · rcases (M.snoc_at _ _ j b).mp h2 with z2 | ⟨z2, _⟩
          · obtain ⟨d, q⟩ := W1.bl j a b z1 z2
            exact ⟨d, kp _ _ q (nl q fun _ z => nomatch z)⟩
          · have := (List.getElem?_eq_some_iff.mp z1).1; omega
        · rcases (M.snoc_at _ _ j b).mp h2 with z2 | ⟨_, rfl⟩
          · have := (List.getElem?_eq_some_iff.mp z2).1; omega
          · exact ⟨dx1, kp _ _ q1 (nl q1 fun _ z => nomatch z)⟩
      · obtain ⟨t, h1, h2⟩ := W1.ks p hp
        exact ⟨t, h1, kp _ _ h2 fun z => W.lbn (by rw [← z]; exact List.mem_map_of_mem hp)⟩
    refine rd_blades W2 rfl ⟨r.lb, _, rfl, .inl (SqL.of W2.lst), _, _, rfl, rfl, ?_⟩
    have e : ((((r.as ++ [x]).map V.ref).length : Nat) : Int) - 1 = ((h.blades.length : Nat) : Int) := by
      rw [List.length_map, List.length_append, W.alen]; simp
    show Q (V.int (((((r.as ++ [x]).map V.ref).length : Nat) : Int) - 1)) _
    rw [e]
    exact k _ x W2 hx fun b o eb n => kp _ _ (s1 _ _ eb) n
end
end B
namespace B
open PySem PySem.Spec PyProof.Rows L2
open Kqv5 (Hall)
section
variable {P : Program} {w : World} {K : PySem.W.Frag} {mg : Str → Option Value} {base : Heap}
variable {T : Txt K mg} {H H' : Hp} {wk : Addr} {r : Rep} {st : Bool} {h : Hall}
abbrev kvV (kvs : List (Nat × Addr)) : List (Key × V) := kvs.map fun p => ((Sum.inl ((p.1 : Nat) : Int) : Key), V.ref p.2)
theorem key_inj {a b : Nat} (e : (Sum.inl ((a : Nat) : Int) : Key) = Sum.inl ((b : Nat) : Int)) : a = b := by
  injection e with e; omega
theorem val_some {n : Nat} {v : V} : ∀ {kvs : List (Nat × Addr)}, valV (kvV kvs) (Sum.inl ((n : Nat) : Int)) = some v → ∃ l, (n, l) ∈ kvs ∧ v = V.ref l
  | [], e => by cases e
  | (m, l) :: r, e => by
    by_cases c : m = n
    · subst c
      rw [show kvV ((m, l) :: r) = ((Sum.inl ((m : Nat) : Int) : Key), V.ref l) :: kvV r from rfl, valV_pos rfl] at e
      exact ⟨l, List.mem_cons_self, (Option.some.inj e).symm⟩
    · rw [show kvV ((m, l) :: r) = ((Sum.inl ((m : Nat) : Int) : Key), V.ref l) :: kvV r from rfl, valV_neg (fun z => c (key_inj z))] at e
      obtain ⟨l', h1, h2⟩ := val_some e
      exact ⟨l', List.mem_cons_of_mem _ h1, h2⟩
theorem val_none {n : Nat} {kvs : List (Nat × Addr)} (e : valV (kvV kvs) (Sum.inl ((n : Nat) : Int)) = none) : n ∉ kvs.map (·.1) := fun m => by
  obtain ⟨p, hp, q⟩ := List.mem_map.mp m
  have := valV_not e
  refine this (List.mem_map.mpr ⟨((Sum.inl ((p.1 : Nat) : Int) : Key), V.ref p.2), List.mem_map_of_mem (f := fun (p : Nat × Addr) => ((Sum.inl ((p.1 : Nat) : Int) : Key), V.ref p.2)) hp, ?_⟩)
  rw [q]
theorem WA.there (W : WA T H wk r st h) {n : Nat} {v : V} (e : valV (kvV r.kvs) (Sum.inl ((n : Nat) : Int)) = some v) : ∃ l t, v = V.ref l ∧ (n, l) ∈ r.kvs ∧ h.sets[n]? = some (some t) ∧ H l = some (.lst (vn t)) := by
  obtain ⟨l, h1, h2⟩ := val_some e
  obtain ⟨t, h3, h4⟩ := W.ks _ h1
  exact ⟨l, t, h2, h1, h3, h4⟩
theorem WA.away (W : WA T H wk r st h) {n : Nat} (e : valV (kvV r.kvs) (Sum.inl ((n : Nat) : Int)) = none) (t : List Nat) : h.sets[n]? ≠ some (some t) := fun q => by
  obtain ⟨l, hl⟩ := W.sk n t q
  exact val_none e (List.mem_map.mpr ⟨_, hl, rfl⟩)
/-- the dict's look at a set's number -/
theorem WA.look (W : WA T H wk r st h) (n : Nat) : (valV (kvV r.kvs) (Sum.inl ((n : Nat) : Int)) = none ∧ h.sets.getD n none = none) ∨ ∃ l t, valV (kvV r.kvs) (Sum.inl ((n : Nat) : Int)) = some (V.ref l) ∧ (n, l) ∈ r.kvs ∧ h.sets.getD n none = some t ∧ h.sets[n]? = some (some t) ∧ H l = some (.lst (vn t)) := by
  cases e : valV (kvV r.kvs) (Sum.inl ((n : Nat) : Int)) with
  | none => exact .inl ⟨rfl, (M.getD_none_iff _ _).mpr (W.away e)⟩
  | some v =>
    obtain ⟨l, t, rfl, h1, h2, h3⟩ := W.there e
    exact .inr ⟨l, t, rfl, h1, (M.getD_iff _ _ _).mpr h2, h2, h3⟩
def sp_Works_least_free_number (T : Txt K mg) : Sp := fun vs H Q _ => ∃ (wk : Addr) (r : Rep) (st : Bool) (h : Hall), vs = [.ref wk] ∧ WA T H wk r st h ∧ Q (.int ((Kqv5.slot h.sets : Nat) : Int)) H
theorem ok_Works_least_free_number (T : Txt K mg) : FnOk P w K mg base CX0 1 T.f_Works_least_free_number T.fd_Works_least_free_number ["self"] (sp_Works_least_free_number T) := by
  refine T.F_Works_least_free_number.ok sc_Works_least_free_number (fun vs H Q E h => ?_) (fun cdv A outer s H vs Q E hr h => ?_)
  · obtain ⟨wk, r, st, h, rfl, _⟩ := h
    rfl
  · obtain ⟨wk, r, st, h, rfl, W, k⟩ := h
    refine ⟨_, (pss_cons (ps_set (i := 1) sc_Works_least_free_number.nd rfl (by first | exact Or.inl rfl | exact Or.inr rfl) (pe_int))
      (pss_cons (ps_while PassesOwn.never (pt_cmp (pc_din (hu_of hr) (pv 1) (pe_fld (pv 0) rfl))) (pss_one (ps_aug (i := 1) sc_Works_least_free_number.nd rfl (by first | exact Or.inl rfl | exact Or.inr rfl) (pe_int) ip_add)))
      (pss_one (ps_ret (pv 1))))), ?_⟩
    refine while_by (fun σ H' => ∃ n : Nat, σ = [some (.ref wk), some (.int (n : Nat))] ∧ n ≤ Kqv5.slot h.sets ∧ H' = H) (fun σ _ => match σ with | [_, some (.int n)] => Kqv5.slot h.sets - n.toNat | _ => 0) ⟨0, rfl, Nat.zero_le _, rfl⟩ ?_ ?_
    · rintro σ _ ⟨n, rfl, hn, rfl⟩
      refine ⟨_, rfl, _, rfl, wk, _, _, _, _, rfl, W.ob, T.cl_Works, T.na_Works_trios, rfl, r.dt, _, rfl, DGet.k (k := Sum.inl ((n : Nat) : Int)) W.dct, _, rfl, ?_⟩
      cases e : valV (kvV r.kvs) (Sum.inl ((n : Nat) : Int)) with
      | some v =>
        refine iteT ⟨_, rfl, _, _, rfl, rfl, ⟨n + 1, rfl, ?_, rfl⟩, ?_⟩
        · obtain ⟨l, t, _, _, h2, _⟩ := W.there e
          have : n ≠ Kqv5.slot h.sets := fun z => M.slot_free _ _ (by rw [← z]; exact h2)
          omega
        · obtain ⟨l, t, _, _, h2, _⟩ := W.there e
          have : n ≠ Kqv5.slot h.sets := fun z => M.slot_free _ _ (by rw [← z]; exact h2)
          show Kqv5.slot h.sets - ((n : Int) + 1).toNat < Kqv5.slot h.sets - (n : Int).toNat
          omega
      | none =>
        refine iteF ⟨_, rfl, ?_⟩
        have e2 : n = Kqv5.slot h.sets := by
          by_cases c : n < Kqv5.slot h.sets
          · obtain ⟨t, q⟩ := M.slot_below _ c
            exact absurd q (W.away e t)
          · omega
        rw [e2]
        exact k
    · rintro σ H1 Q1 Q2 hq ⟨v, e, v0, e0, a, C, dx, fs, u, e1, e2, e3, e4, e5, a2, o, e6, e7, c, e8, q⟩
      exact ⟨v, e, v0, e0, a, C, dx, fs, u, e1, e2, e3, e4, e5, a2, o, e6, e7, c, e8, hq _ _ q⟩
/-- blades changed one behind another -/
def modl (f : Kqv5.Blade → Kqv5.Blade) : List Nat → List Kqv5.Blade → List Kqv5.Blade
  | [], bs => bs
  | i :: l, bs => modl f l (bs.modify i f)
theorem modl_snoc (f : Kqv5.Blade → Kqv5.Blade) (i : Nat) : ∀ (l : List Nat) (bs : List Kqv5.Blade), modl f (l ++ [i]) bs = (modl f l bs).modify i f
  | [], bs => rfl
  | j :: l, bs => modl_snoc f i l _
theorem modl_len (f : Kqv5.Blade → Kqv5.Blade) : ∀ (l : List Nat) (bs : List Kqv5.Blade), (modl f l bs).length = bs.length
  | [], bs => rfl
  | j :: l, bs => by
    show (modl f l _).length = _
    rw [modl_len f l, List.length_modify]
theorem modl_at (f : Kqv5.Blade → Kqv5.Blade) : ∀ (l : List Nat), l.Nodup → ∀ (bs : List Kqv5.Blade) (j : Nat), (modl f l bs)[j]? = (bs[j]?).map fun b => if j ∈ l then f b else b
  | [], _, bs, j => by
    show bs[j]? = _
    cases bs[j]? <;> rfl
  | i :: l, nd, bs, j => by
    obtain ⟨n1, n2⟩ := List.nodup_cons.mp nd
    show (modl f l (bs.modify i f))[j]? = _
    rw [modl_at f l n2, List.getElem?_modify]
    cases bs[j]? with
    | none => split <;> rfl
    | some b =>
      by_cases c : i = j
      · subst c
        simp [n1]
      · have c' : ¬ j = i := fun z => c z.symm
        simp [c, c']
/-- what the works' own things are -/
def inF (wk : Addr) (r : Rep) (c : Addr) : Prop := c = wk ∨ c = r.lb ∨ c = r.dt ∨ c ∈ r.as ∨ c ∈ r.kvs.map (·.2)
/-- all else stands as it stood -/
structure Keep (wk : Addr) (r : Rep) (H H' : Hp) : Prop where
  k : ∀ c o, H c = some o → ¬ inF wk r c → H' c = some o
  d : ∀ c, H' c = none → H c = none
/-- what is the works' own now was so before, or is new -/
def Grow (wk : Addr) (H : Hp) (r r' : Rep) : Prop := ∀ c, inF wk r' c → inF wk r c ∨ H c = none
theorem Grow.refl : Grow wk H r r := fun _ h => .inl h
theorem same_keep (s : Same H H') : Keep wk r H H' := ⟨fun c o e _ => s c o e, fun _ e => s.free e⟩
theorem Keep.trans {r' : Rep} {H2 : Hp} (k1 : Keep wk r H H') (g : Grow wk H r r') (k2 : Keep wk r' H' H2) : Keep wk r H H2 := ⟨fun c o e n => k2.k c o (k1.k c o e n) fun z => (g c z).elim n fun q => (nomatch (e.symm.trans q)), fun c e => k1.d c (k2.d c e)⟩
/-- these blades evened, in the set s -/
def bound (h : Hall) (l : List Nat) (s : Nat) : List Kqv5.Blade := modl (fun b => { b with set := s + 1 }) l (Kqv5.adds h l)
def sp_Works_bind_as (T : Txt K mg) : Sp := fun vs H Q _ => ∃ (wk p : Addr) (r : Rep) (st : Bool) (h : Hall) (l : List Nat) (s : Nat) (ss : List (Option (List Nat))), vs = [.ref wk, .int (s : Nat), .ref p] ∧ WA T H wk r st h ∧ M.Wf h ∧ H p = some (.lst (vn l)) ∧ l ≠ [] ∧ l.Nodup ∧ l.length ≤ 100 ∧ (∀ i ∈ l, i < h.blades.length) ∧
  (∀ t, h.sets[s]? ≠ some (some t)) ∧ (∀ (m : Nat) (t : List Nat), ss[m]? = some (some t) ↔ (m = s ∧ t = l) ∨ (m ≠ s ∧ h.sets[m]? = some (some t))) ∧
  ∀ H' r', WA T H' wk r' st { h with blades := bound h l s, sets := ss } → Grow wk H r r' → Keep wk r H H' → Q .non H'
theorem ok_Works_bind_as (T : Txt K mg) : FnOk P w K mg base CX0 5 T.f_Works_bind_as T.fd_Works_bind_as ["self", "s", "numbers"] (sp_Works_bind_as T) := by
  refine T.F_Works_bind_as.ok sc_Works_bind_as (fun vs H Q E h => ?_) (fun cdv A outer s H vs Q E hr h => ?_)
  · obtain ⟨wk, p, r, st, h, l, n, ss, rfl, _⟩ := h
    rfl
  · obtain ⟨wk, p, r, st, h, l, n, ss, rfl, W, wfh, hp, hne, nd, hlen, hv, hno, hss, k⟩ := h
    refine ⟨_, (pss_cons (ps_expr (pe_meth (pv 0) T.cl_Works T.m_Works_even_out (ok_Works_even_out T) (hr.mono (by decide)) T.b_Works_even_out .nil pass0 (pa_cons (pv 2) pa_nil)))
      (pss_cons (ps_for PassesOwn.never rfl (pi_list (pv 2)) (pg_name (i := 3) sc_Works_bind_as.nd rfl (by first | exact Or.inl rfl | exact Or.inr rfl)) (pss_cons (ps_set (i := 4) sc_Works_bind_as.nd rfl (by first | exact Or.inl rfl | exact Or.inr rfl) (pe_ix ix_list (pe_fld (pv 0) rfl) (pv 3) (fun _ _ => rfl)))
      (pss_one (ps_fld (pv 4) (pe_op op_add (pv 1) (pe_int)) rfl))))
      (pss_one (ps_dput (hu_of hr) (pe_fld (pv 0) rfl) (pv 1) (pe_callTy call_list_of (by rfl) T.no_list boot_listB (pa_cons (pv 2) pa_nil)) rfl)))), ?_⟩
    refine ⟨_, rfl, wk, _, _, rfl, W.ob, rfl, _, rfl, wk, p, r, st, h, l, rfl, W, wfh, hp, hne, nd, hlen, hv, fun H1 W1 kb1 => ?_⟩
    have hp1 : H1 p = some (.lst (vn l)) := kb1 _ _ hp (W.out_lst hp)
    have hp1' := hp1
    rw [vn_map] at hp1'
    refine ⟨_, rfl, p, rfl, ⟨_, SqL.of hp1'⟩, for_list (K := K) (a := p) (xs := l.map fun n => V.int ((n : Nat) : Int))
      (fun i σ H2 => ∃ v3 v4, σ = [some (.ref wk), some (.int (n : Nat)), some (.ref p), v3, v4] ∧ WA T H2 wk r st { h with blades := modl (fun b => { b with set := n + 1 }) (l.take i) (Kqv5.adds h l) } ∧ KeepB r H1 H2)
      ⟨_, _, rfl, W1, fun _ _ e _ => e⟩ (fun i σ H2 _ hI => ?_) (fun i x σ H2 hx hI => ?_) (fun σ H2 hI => ?_)⟩
    · obtain ⟨_, _, _, _, kp⟩ := hI
      exact SqL.of (kp _ _ hp1' (W1.out_lst hp1'))
    · obtain ⟨v2, v3, rfl, W2, kp⟩ := hI
      obtain ⟨z, hz, rfl⟩ := at_map hx
      obtain ⟨a, b, ha, hb, dx, hdx⟩ := W2.get (i := z) (by show z < (modl _ _ _).length; rw [modl_len, M.adds_len]; exact hv z (List.mem_of_getElem? hz))
      have hb : (modl (fun b => { b with set := n + 1 }) (l.take i) (Kqv5.adds h l))[z]? = some b := hb
      refine rd_blade W2 rfl ha (fun Q' q => ⟨_, rfl, q⟩) ?_
      refine ⟨_, rfl, _, _, rfl, rfl, _, rfl, a, _, dx, _, rfl, hdx, T.cl_Blade, T.na_Blade_set_and_one, by show 5 < 1000; decide, _, _, rfl, ?_, ?_⟩
      · have W4 := W2.blade (b' := { b with set := n + 1 }) (H' := upd H2 a (.ins T.C_Blade dx (putF "set_and_one" (V.int (((n : Nat) : Int) + 1)) (bf b)))) ha hb ⟨dx, by rw [upd_same]; rfl⟩ (fun c o e n => by rw [upd_ne n]; exact e)
        have e1 : modl (fun b => { b with set := n + 1 }) (l.take (i + 1)) (Kqv5.adds h l) = (modl (fun b => { b with set := n + 1 }) (l.take i) (Kqv5.adds h l)).set z { b with set := n + 1 } := by
          rw [take_snoc hz, modl_snoc, modify_set _ _ b _ hb]
        rw [e1]
        exact W4
      · intro c o e n
        rw [upd_ne (fun z => n (by rw [z]; exact List.mem_of_getElem? ha))]
        exact kp c o e n
    · obtain ⟨v2, v3, rfl, W2, kp⟩ := hI
      rw [List.length_map, List.take_length] at W2
      have hp2 : H2 p = some (.lst (vn l)) := kp _ _ hp1 (W1.out_lst hp1)
      refine ⟨_, rfl, p, _, rfl, .inl (SqL.of hp2), fun q hq => ?_⟩
      have s3 : Same H2 (upd H2 q (.lst (vn l))) := fun b u e => by rw [upd_ne (ne_of_none e hq)]; exact e
      have W3 := W2.same s3
      have fresh : valV (kvV r.kvs) (Sum.inl ((n : Nat) : Int)) = none := by
        cases e : valV (kvV r.kvs) (Sum.inl ((n : Nat) : Int)) with
        | none => rfl
        | some v =>
          obtain ⟨_, t, _, _, h2, _⟩ := W.there e
          exact absurd h2 (hno t)
      have few : r.kvs.length ≤ 20 := by
        have := wfh.few (r.kvs.map (·.1)) W.kn fun s hs => by
          obtain ⟨p', hp', rfl⟩ := List.mem_map.mp hs
          obtain ⟨t, h1, _⟩ := W.ks p' hp'
          exact ⟨t, h1⟩
        rwa [List.length_map] at this
      refine ⟨_, rfl, wk, _, _, _, _, rfl, W3.ob, T.cl_Works, T.na_Works_trios, rfl, _, rfl, r.dt, _, rfl, DPut.k (k := Sum.inl ((n : Nat) : Int)) W3.dct (by rw [List.length_map]; exact Nat.lt_of_le_of_lt few (by decide)), ?_⟩
      rw [putK_new _ fresh]
      have qn : ∀ {c : Addr} {o : HO}, H2 c = some o → c ≠ q := fun e => ne_of_none e hq
      have ndt : ∀ {c : Addr} {o : HO}, upd H2 q (.lst (vn l)) c = some o → (∀ xs, o ≠ .dK xs) → c ≠ r.dt := fun e n z => by
        rw [z, W3.dct] at e; cases e; exact n _ rfl
      have kd : ∀ {c : Addr} {o : HO}, upd H2 q (.lst (vn l)) c = some o → (∀ xs, o ≠ .dK xs) → ∀ u, upd (upd H2 q (.lst (vn l))) r.dt u c = some o := fun e n u => by
        rw [upd_ne (ndt e n)]; exact e
      refine k _ { r with kvs := r.kvs ++ [(n, q)] } ⟨kd W3.ob (fun _ z => nomatch z) _, kd W3.lst (fun _ z => nomatch z) _, ?_, W.and_, fun j a b h1 h2 => ?_, ?_, ?_, ?_, ?_, fun p' hp' => ?_, fun s t hs => ?_⟩ ?_ ?_
      · show r.as.length = (modl _ _ _).length
        rw [modl_len, M.adds_len]; exact W.alen
      · obtain ⟨d, qd⟩ := W3.bl j a b h1 h2
        exact ⟨d, kd qd (fun _ z => nomatch z) _⟩
      · rw [upd_same, List.map_append]; rfl
      · show ((r.kvs ++ [(n, q)]).map (·.1)).Nodup
        rw [List.map_append]
        exact nd_snoc W.kn (val_none fresh)
      · show ((r.kvs ++ [(n, q)]).map (·.2)).Nodup
        rw [List.map_append]
        refine nd_snoc W.ln fun m => ?_
        obtain ⟨p', hp', e⟩ := List.mem_map.mp m
        obtain ⟨t, _, h2⟩ := W2.ks p' hp'
        exact qn h2 e
      · show r.lb ∉ (r.kvs ++ [(n, q)]).map (·.2)
        rw [List.map_append]
        intro m
        rcases List.mem_append.mp m with z | z
        · exact W.lbn z
        · exact qn W2.lst (by simpa using z)
      · rcases List.mem_append.mp hp' with z | z
        · obtain ⟨t, h1, h2⟩ := W3.ks p' z
          refine ⟨t, ?_, kd h2 (fun _ z => nomatch z) _⟩
          refine (hss _ _).mpr (.inr ⟨fun e => ?_, h1⟩)
          rw [e] at h1
          exact hno _ h1
        · have z : p' = (n, q) := by simpa using z
          subst z
          refine ⟨l, ?_, kd upd_same (fun _ z => nomatch z) _⟩
          exact (hss _ _).mpr (.inl ⟨rfl, rfl⟩)
      · rcases (hss _ _).mp hs with ⟨rfl, rfl⟩ | ⟨_, hs⟩
        · exact ⟨q, List.mem_append_right _ (by simp)⟩
        · obtain ⟨l', hl'⟩ := W.sk s t hs
          exact ⟨l', List.mem_append_left _ hl'⟩
      · intro c hc
        rcases hc with z | z | z | z | z
        · exact .inl (.inl z)
        · exact .inl (.inr (.inl z))
        · exact .inl (.inr (.inr (.inl z)))
        · exact .inl (.inr (.inr (.inr (.inl z))))
        · have z : c ∈ (r.kvs ++ [(n, q)]).map (·.2) := z
          rw [List.map_append] at z
          rcases List.mem_append.mp z with z | z
          · exact .inl (.inr (.inr (.inr (.inr z))))
          · have z : c = q := by simpa using z
            subst z
            by_cases cf : inF wk r c
            · exact .inl cf
            · right
              cases e : H c with
              | none => rfl
              | some o =>
                have n : c ∉ r.as := fun y => cf (.inr (.inr (.inr (.inl y))))
                rw [kp _ _ (kb1 _ _ e n) n] at hq
                cases hq
      · refine ⟨fun c o e n => ?_, fun c e => ?_⟩
        · have na : c ∉ r.as := fun y => n (.inr (.inr (.inr (.inl y))))
          have e2 := kp _ _ (kb1 _ _ e na) na
          rw [upd_ne (fun z => n (.inr (.inr (.inl z)))), upd_ne (qn e2)]
          exact e2
        · cases e0 : H c with
          | none => rfl
          | some o =>
            have e2 : ∃ o', H2 c = some o' := by
              by_cases na : c ∈ r.as
              · obtain ⟨_, _, _, _, dx, q⟩ := W2.mem na
                exact ⟨_, q⟩
              · exact ⟨_, kp _ _ (kb1 _ _ e0 na) na⟩
            obtain ⟨o', e2⟩ := e2
            by_cases c1 : c = r.dt
            · rw [c1, upd_same] at e; cases e
            · rw [upd_ne c1, upd_ne (qn e2), e2] at e; cases e
theorem bound_matched (h : Hall) (l : List Nat) (nd : l.Nodup) : bound h l (Kqv5.slot h.sets) = (Kqv5.matched h l).blades := by
  apply List.ext_getElem?
  intro j
  unfold bound
  rw [modl_at _ l nd, M.adds_at, M.matched_at]
  cases h.blades[j]? with
  | none => rfl
  | some b => by_cases c : j ∈ l <;> simp [c]
def sp_Works_bind (T : Txt K mg) : Sp := fun vs H Q _ => ∃ (wk p : Addr) (r : Rep) (st : Bool) (h : Hall) (l : List Nat), vs = [.ref wk, .ref p] ∧ WA T H wk r st h ∧ M.Wf h ∧ H p = some (.lst (vn l)) ∧ l ≠ [] ∧ l.Nodup ∧ l.length ≤ 100 ∧ (∀ i ∈ l, i < h.blades.length) ∧
  ∀ H' r', WA T H' wk r' st (Kqv5.matched h l) → Grow wk H r r' → Keep wk r H H' → Q (.int ((Kqv5.slot h.sets : Nat) : Int)) H'
theorem ok_Works_bind (T : Txt K mg) : FnOk P w K mg base CX0 6 T.f_Works_bind T.fd_Works_bind ["self", "numbers"] (sp_Works_bind T) := by
  refine T.F_Works_bind.ok sc_Works_bind (fun vs H Q E h => ?_) (fun cdv A outer s H vs Q E hr h => ?_)
  · obtain ⟨wk, p, r, st, h, l, rfl, _⟩ := h
    rfl
  · obtain ⟨wk, p, r, st, h, l, rfl, W, wfh, hp, hne, nd, hlen, hv, k⟩ := h
    refine ⟨_, (pss_cons (ps_set (i := 2) sc_Works_bind.nd rfl (by first | exact Or.inl rfl | exact Or.inr rfl) (pe_meth0 (pv 0) T.cl_Works T.m_Works_least_free_number (ok_Works_least_free_number T) (hr.mono (by decide)) T.b_Works_least_free_number .nil pass0))
      (pss_cons (ps_expr (pe_meth (pv 0) T.cl_Works T.m_Works_bind_as (ok_Works_bind_as T) (hr.mono (by decide)) T.b_Works_bind_as .nil pass0 (pa_cons (pv 2) (pa_cons (pv 1) pa_nil))))
      (pss_one (ps_ret (pv 2))))), ?_⟩
    refine ⟨_, rfl, wk, _, _, rfl, W.ob, rfl, wk, r, st, h, rfl, W, ?_⟩
    refine ⟨_, rfl, wk, _, _, rfl, W.ob, rfl, _, rfl, _, rfl, wk, p, r, st, h, l, Kqv5.slot h.sets, Kqv5.putIn h.sets l, rfl, W, wfh, hp, hne, nd, hlen, hv, M.slot_free _, fun m t => M.putIn_at _ _ _ _, fun H1 r1 W1 g1 k1 => ?_⟩
    rw [bound_matched h l nd] at W1
    exact ⟨_, rfl, k H1 r1 W1 g1 k1⟩
end
end B
namespace B
open PySem PySem.Spec PyProof.Rows L2
open Kqv5 (Hall)
section
variable {P : Program} {w : World} {K : PySem.W.Frag} {mg : Str → Option Value} {base : Heap}
variable {T : Txt K mg} {H H' : Hp} {wk : Addr} {r : Rep} {st : Bool} {h : Hall}
theorem ite_b {c : Bool} {A B : Prop} (h1 : c = true → A) (h2 : c = false → B) : if c = true then A else B := by
  cases c with
  | true => rw [if_pos rfl]; exact h1 rfl
  | false => rw [if_neg Bool.false_ne_true]; exact h2 rfl
theorem not_t {c : Bool} (h : (!c) = true) : c = false := by cases c <;> first | rfl | cases h
theorem not_f {c : Bool} (h : (!c) = false) : c = true := by cases c <;> first | rfl | cases h
theorem drop_kv (n : Nat) : ∀ kvs : List (Nat × Addr), dropK (kvV kvs) (Sum.inl ((n : Nat) : Int)) = kvV (kvs.filter fun p => decide (p.1 ≠ n))
  | [] => rfl
  | (m, l) :: r => by
    by_cases c : m = n
    · subst c
      rw [show kvV ((m, l) :: r) = ((Sum.inl ((m : Nat) : Int) : Key), V.ref l) :: kvV r from rfl, dropK_pos rfl, drop_kv m r, List.filter_cons, if_neg (by simp)]
    · rw [show kvV ((m, l) :: r) = ((Sum.inl ((m : Nat) : Int) : Key), V.ref l) :: kvV r from rfl, dropK_neg (fun z => c (key_inj z)), drop_kv n r, List.filter_cons, if_pos (by simpa using c)]
      rfl
def sp_Works_unbind (T : Txt K mg) : Sp := fun vs H Q _ => ∃ (wk : Addr) (r : Rep) (st : Bool) (h : Hall) (n : Nat) (t : List Nat), vs = [.ref wk, .int (n : Nat)] ∧ WA T H wk r st h ∧ M.Wf h ∧ h.sets[n]? = some (some t) ∧
  ∀ H' r' l, WA T H' wk r' st { h with blades := Kqv5.mark h t fun b => { b with set := 0 }, sets := h.sets.set n none } → Grow wk H r r' → Keep wk r H H' → H' l = some (.lst (vn t)) → Q (.ref l) H'
theorem ok_Works_unbind (T : Txt K mg) : FnOk P w K mg base CX0 1 T.f_Works_unbind T.fd_Works_unbind ["self", "s"] (sp_Works_unbind T) := by
  refine T.F_Works_unbind.ok sc_Works_unbind (fun vs H Q E h => ?_) (fun cdv A outer s H vs Q E hr h => ?_)
  · obtain ⟨wk, r, st, h, n, t, rfl, _⟩ := h
    rfl
  · obtain ⟨wk, r, st, h, n, t, rfl, W, wfh, hn, k⟩ := h
    refine ⟨_, (pss_cons (ps_set (i := 2) sc_Works_unbind.nd rfl (by first | exact Or.inl rfl | exact Or.inr rfl) (pe_dpop1 (pe_fld (pv 0) rfl) (pv 1) ⟨rfl, rfl, rfl, rfl⟩))
      (pss_cons (ps_for PassesOwn.never rfl (pi_list (pv 2)) (pg_name (i := 3) sc_Works_unbind.nd rfl (by first | exact Or.inl rfl | exact Or.inr rfl)) (pss_cons (ps_set (i := 4) sc_Works_unbind.nd rfl (by first | exact Or.inl rfl | exact Or.inr rfl) (pe_ix ix_list (pe_fld (pv 0) rfl) (pv 3) (fun _ _ => rfl)))
      (pss_one (ps_fld (pv 4) (pe_int) rfl))))
      (pss_one (ps_ret (pv 2))))), ?_⟩
    obtain ⟨⟨i1, i2, i3, rt, d1, d2, d3, _⟩, mm⟩ := wfh.st n t hn
    have nd : t.Nodup := by rw [rt]; simp [d1, d2, d3]
    have hv : ∀ i ∈ t, i < h.blades.length := fun i hi => by
      obtain ⟨b, q, _⟩ := mm i hi
      exact (List.getElem?_eq_some_iff.mp q).1
    obtain ⟨e0, g0⟩ | ⟨l, t', e0, hl, g0, hn', hlt⟩ := W.look n
    · exact absurd hn ((M.getD_none_iff _ _).mp g0 t)
    rw [hn] at hn'
    cases hn'
    refine ⟨_, rfl, wk, _, _, _, _, rfl, W.ob, T.cl_Works, T.na_Works_trios, rfl, r.dt, rfl, .inl ⟨_, .inl W.dct⟩, _, rfl, _, Sum.inl ((n : Nat) : Int), _, W.dct, rfl, e0, ?_⟩
    rw [drop_kv]
    -- the works without that set
    have ndt : ∀ {c : Addr} {o : HO}, H c = some o → (∀ xs, o ≠ .dK xs) → c ≠ r.dt := fun e n z => by
      rw [z, W.dct] at e; cases e; exact n _ rfl
    have kd : ∀ {c : Addr} {o : HO}, H c = some o → (∀ xs, o ≠ .dK xs) → ∀ u, upd H r.dt u c = some o := fun e n u => by
      rw [upd_ne (ndt e n)]; exact e
    have W1 : WA T (upd H r.dt (.dK (kvV (r.kvs.filter fun p => decide (p.1 ≠ n))))) wk { r with kvs := r.kvs.filter fun p => decide (p.1 ≠ n) } st { h with sets := h.sets.set n none } := by
      refine ⟨kd W.ob (fun _ z => nomatch z) _, kd W.lst (fun _ z => nomatch z) _, W.alen, W.and_, fun j a b h1 h2 => ?_, upd_same, ?_, ?_, ?_, fun p hp => ?_, fun s t' hs => ?_⟩
      · obtain ⟨d, qd⟩ := W.bl j a b h1 h2
        exact ⟨d, kd qd (fun _ z => nomatch z) _⟩
      · exact W.kn.sublist (List.filter_sublist.map _)
      · exact W.ln.sublist (List.filter_sublist.map _)
      · exact fun m => W.lbn ((List.filter_sublist.map _).subset m)
      · obtain ⟨m1, m2⟩ := List.mem_filter.mp hp
        obtain ⟨t', h1, h2⟩ := W.ks p m1
        exact ⟨t', (M.set_none_at _ _ _ _).mpr ⟨by simpa using m2, h1⟩, kd h2 (fun _ z => nomatch z) _⟩
      · obtain ⟨n1, n2⟩ := (M.set_none_at _ _ _ _).mp hs
        obtain ⟨l', hl'⟩ := W.sk s t' n2
        exact ⟨l', List.mem_filter.mpr ⟨hl', by simpa using n1⟩⟩
    have hl1 : (upd H r.dt (.dK (kvV (r.kvs.filter fun p => decide (p.1 ≠ n))))) l = some (.lst (vn t)) := kd hlt (fun _ z => nomatch z) _
    have hl1' := hl1
    rw [vn_map] at hl1'
    refine ⟨_, rfl, l, rfl, ⟨_, SqL.of hl1'⟩, for_list (K := K) (a := l) (xs := t.map fun n => V.int ((n : Nat) : Int))
      (fun i σ H2 => ∃ v3 v4, σ = [some (.ref wk), some (.int (n : Nat)), some (.ref l), v3, v4] ∧ WA T H2 wk { r with kvs := r.kvs.filter fun p => decide (p.1 ≠ n) } st { h with sets := h.sets.set n none, blades := modl (fun b => { b with set := 0 }) (t.take i) h.blades } ∧
        KeepB r (upd H r.dt (.dK (kvV (r.kvs.filter fun p => decide (p.1 ≠ n))))) H2)
      ⟨_, _, rfl, W1, fun _ _ e _ => e⟩ (fun i σ H2 _ hI => ?_) (fun i x σ H2 hx hI => ?_) (fun σ H2 hI => ?_)⟩
    · obtain ⟨_, _, _, _, kp⟩ := hI
      exact SqL.of (kp _ _ hl1' (W1.out_lst hl1'))
    · obtain ⟨v3, v4, rfl, W2, kp⟩ := hI
      obtain ⟨z, hz, rfl⟩ := at_map hx
      obtain ⟨a, b, ha, hb, dx, hdx⟩ := W2.get (i := z) (by show z < (modl _ _ _).length; rw [modl_len]; exact hv z (List.mem_of_getElem? hz))
      have hb : (modl (fun b => { b with set := 0 }) (t.take i) h.blades)[z]? = some b := hb
      refine rd_blade W2 rfl ha (fun Q' q => ⟨_, rfl, q⟩) ?_
      refine ⟨_, rfl, a, _, dx, _, rfl, hdx, T.cl_Blade, T.na_Blade_set_and_one, by show 5 < 1000; decide, _, _, rfl, ?_, ?_⟩
      · have W4 := W2.blade (b' := { b with set := 0 }) (H' := upd H2 a (.ins T.C_Blade dx (putF "set_and_one" (V.int 0) (bf b)))) ha hb ⟨dx, by rw [upd_same]; rfl⟩ (fun c o e n => by rw [upd_ne n]; exact e)
        have e1 : modl (fun b => { b with set := 0 }) (t.take (i + 1)) h.blades = (modl (fun b => { b with set := 0 }) (t.take i) h.blades).set z { b with set := 0 } := by
          rw [take_snoc hz, modl_snoc, modify_set _ _ b _ hb]
        rw [e1]
        exact W4
      · intro c o e n
        rw [upd_ne (fun z => n (by rw [z]; exact List.mem_of_getElem? ha))]
        exact kp c o e n
    · obtain ⟨v3, v4, rfl, W2, kp⟩ := hI
      rw [List.length_map, List.take_length] at W2
      have e3 : modl (fun b => { b with set := 0 }) t h.blades = Kqv5.mark h t fun b => { b with set := 0 } := by
        apply List.ext_getElem?
        intro j
        rw [modl_at _ t nd, M.mark_at]
        cases h.blades[j]? with
        | none => rfl
        | some b => simp
      rw [e3] at W2
      refine ⟨_, rfl, k H2 _ l W2 ?_ ?_ (kp _ _ hl1 (W1.out_lst hl1))⟩
      · intro c hc
        rcases hc with z | z | z | z | z
        · exact .inl (.inl z)
        · exact .inl (.inr (.inl z))
        · exact .inl (.inr (.inr (.inl z)))
        · exact .inl (.inr (.inr (.inr (.inl z))))
        · exact .inl (.inr (.inr (.inr (.inr ((List.filter_sublist.map _).subset z)))))
      · refine ⟨fun c o e n => ?_, fun c e => ?_⟩
        · refine kp c o ?_ fun y => n (.inr (.inr (.inr (.inl y))))
          rw [upd_ne (fun z => n (.inr (.inr (.inl z))))]
          exact e
        · cases e0 : H c with
          | none => rfl
          | some o =>
            exfalso
            by_cases na : c ∈ r.as
            · obtain ⟨_, _, _, _, dx, q⟩ := W2.mem na
              rw [q] at e; cases e
            · by_cases c1 : c = r.dt
              · rw [c1, W2.dct] at e; cases e
              · rw [kp c o (by rw [upd_ne c1]; exact e0) na] at e; cases e
/-! ### what refuses -/
def sp_is_moment (T : Txt K mg) : Sp := fun vs H Q _ => ∃ (m : Nat), vs = [.int (m : Nat)] ∧ Q (.bl (decide (1 ≤ m ∧ m ≤ 100000))) H
theorem ok_is_moment (T : Txt K mg) : FnOk P w K mg base CX0 1 T.f_is_moment T.fd_is_moment ["moment"] (sp_is_moment T) := by
  refine T.F_is_moment.ok sc_is_moment (fun vs H Q E h => ?_) (fun cdv A outer s H vs Q E hr h => ?_)
  · obtain ⟨m, rfl, _⟩ := h
    rfl
  · obtain ⟨m, rfl, k⟩ := h
    refine ⟨_, (pss_one (ps_ret (pe_chain op_le op_le (pe_int) (pv 0) (pe_glob (v := V.int 100000) (by rfl) T.mg_GREATEST_MOMENT ⟨_, rfl⟩)))), ?_⟩
    refine ⟨_, rfl, _, _, rfl, rfl, _, rfl, ?_⟩
    by_cases c : (1 : Int) ≤ (m : Int)
    · rw [decide_eq_true c]
      refine iteT ⟨_, _, rfl, rfl, ?_⟩
      have e : decide ((m : Int) ≤ 100000) = decide (1 ≤ m ∧ m ≤ 100000) := by
        rw [Bool.eq_iff_iff, decide_eq_true_eq, decide_eq_true_eq]; omega
      show Q (V.bl (decide ((m : Int) ≤ 100000))) H
      rw [e]
      exact k
    · rw [decide_eq_false c]
      refine iteF ?_
      rw [decide_eq_false (show ¬ (1 ≤ m ∧ m ≤ 100000) by omega)] at k
      exact k
def refF (h : Hall) (i : Nat) : Int := if h.blades.length ≤ i then -2 else if Kqv5.isFree h i = true then 0 else -16
def sp_refusal_unless_free (T : Txt K mg) : Sp := fun vs H Q _ => ∃ (wk : Addr) (r : Rep) (st : Bool) (h : Hall) (i : Nat), vs = [.ref wk, .int (i : Nat)] ∧ WA T H wk r st h ∧ ∀ H', Same H H' → Q (.int (refF h i)) H'
theorem ok_refusal_unless_free (T : Txt K mg) : FnOk P w K mg base CX0 2 T.f_refusal_unless_free T.fd_refusal_unless_free ["works", "i"] (sp_refusal_unless_free T) := by
  refine T.F_refusal_unless_free.ok sc_refusal_unless_free (fun vs H Q E h => ?_) (fun cdv A outer s H vs Q E hr h => ?_)
  · obtain ⟨wk, r, st, h, i, rfl, _⟩ := h
    rfl
  · obtain ⟨wk, r, st, h, i, rfl, W, k⟩ := h
    refine ⟨_, (pss_cons (ps_if (pt_not (pt_val (pe_meth (pv 0) T.cl_Works T.m_Works_has_blades (ok_Works_has_blades T) (hr.mono (by decide)) T.b_Works_has_blades .nil pass0 (pa_cons (pe_lst (pa_cons (pv 1) pa_nil)) pa_nil)))) (pss_one (ps_ret (pe_glob (v := V.int (-2)) (by rfl) T.mg_NO_SUCH ⟨_, rfl⟩))) (pss_nil))
      (pss_cons (ps_if (pt_not (pt_val (pe_meth0 (pe_ix ix_list (pe_fld (pv 0) rfl) (pv 1) (fun _ _ => rfl)) T.cl_Blade T.m_Blade_is_free (ok_Blade_is_free T) (hr.mono (by decide)) T.b_Blade_is_free .nil pass0))) (pss_one (ps_ret (pe_glob (v := V.int (-16)) (by rfl) T.mg_NOT_FREE ⟨_, rfl⟩))) (pss_nil))
      (pss_one (ps_ret (pe_int))))), ?_⟩
    refine ⟨_, rfl, wk, _, _, rfl, W.ob, rfl, _, rfl, by show 1 ≤ sizeLine; decide, fun p hp => ?_⟩
    have s1 : Same H (upd H p (.lst [V.int (i : Nat)])) := fun b u e => by rw [upd_ne (ne_of_none e hp)]; exact e
    have W1 := W.same s1
    refine ⟨wk, p, r, st, h, [i], rfl, W1, by rw [upd_same]; rfl, by simp, _, rfl, ?_⟩
    refine ite_b (fun e => ?_) (fun e => ?_)
    · have c : h.blades.length ≤ i := by simp at e; omega
      have := k _ s1
      unfold refF at this
      rw [if_pos c] at this
      exact this
    · have c : i < h.blades.length := by simp at e; omega
      obtain ⟨a, b, ha, hb, Bl⟩ := W1.get c
      obtain ⟨dx, hdx⟩ := id Bl
      refine rd_blade W1 rfl ha (fun Q' q => ⟨_, rfl, q⟩) ⟨a, dx, _, rfl, hdx, rfl, a, b, rfl, Bl, _, rfl, ?_⟩
      have := k _ s1
      unfold refF at this
      rw [if_neg (by omega), M.free_of hb] at this
      refine ite_b (fun e2 => ?_) (fun e2 => ?_)
      · rw [if_neg (by rw [not_t e2]; decide)] at this
        exact this
      · rw [if_pos (not_f e2)] at this
        exact this
end
end B
namespace B
open PySem PySem.Spec PyProof.Rows L2
open Kqv5 (Hall)
section
variable {P : Program} {w : World} {K : PySem.W.Frag} {mg : Str → Option Value} {base : Heap}
variable {T : Txt K mg} {H H' : Hp} {wk : Addr} {r : Rep} {st : Bool} {h : Hall}
/-! ### the count of different numbers -/
theorem dedup_le : ∀ (l acc : List Int), (l.foldl step_dedup acc).length ≤ acc.length + l.length
  | [], acc => Nat.le_refl _
  | x :: l, acc => by
    rw [List.foldl_cons]
    refine Nat.le_trans (dedup_le l _) ?_
    unfold step_dedup
    split <;> simp <;> omega
theorem dedup_eq : ∀ (l acc : List Int), (l.foldl step_dedup acc).length = acc.length + l.length ↔ l.Nodup ∧ ∀ x ∈ l, x ∉ acc
  | [], acc => by simp
  | x :: l, acc => by
    rw [List.foldl_cons]
    by_cases c : x ∈ acc
    · have e : step_dedup acc x = acc := by
        unfold step_dedup
        rw [if_pos (List.any_eq_true.mpr ⟨x, c, by simp⟩)]
      rw [e]
      have := dedup_le l acc
      constructor
      · intro z; rw [List.length_cons] at z; omega
      · intro z; exact absurd c (z.2 x List.mem_cons_self)
    · have e : step_dedup acc x = acc ++ [x] := by
        unfold step_dedup
        rw [if_neg (fun z => by
          obtain ⟨y, hy, e⟩ := List.any_eq_true.mp z
          have : y = x := by simpa using e
          exact c (this ▸ hy))]
      rw [e]
      have ih := dedup_eq l (acc ++ [x])
      rw [List.length_append, List.length_singleton] at ih
      rw [List.length_cons, show acc.length + (l.length + 1) = acc.length + 1 + l.length by omega, ih, List.nodup_cons]
      constructor
      · rintro ⟨h1, h2⟩
        refine ⟨⟨fun m => (h2 x m) (by simp), h1⟩, fun y hy => ?_⟩
        rcases List.mem_cons.mp hy with rfl | hy
        · exact c
        · exact fun z => h2 y hy (List.mem_append_left _ z)
      · rintro ⟨⟨h1, h2⟩, h3⟩
        refine ⟨h2, fun y hy z => ?_⟩
        rcases List.mem_append.mp z with z | z
        · exact h3 y (List.mem_cons_of_mem _ hy) z
        · have : y = x := by simpa using z
          exact h1 (this ▸ hy)
theorem nats_nodup (l : List Nat) : (Kqv5.nats l).Nodup ↔ l.Nodup := by
  unfold Kqv5.nats
  constructor
  · intro z; exact List.Pairwise.of_map _ (fun a b hab e => hab (by rw [e])) z
  · intro z
    exact List.Pairwise.map _ (fun a b hab => by intro e; exact hab (by omega)) z
theorem dedup_lt (l : List Nat) : decide ((((Kqv5.nats l).foldl step_dedup []).length : Int) < (l.length : Int)) = !decide l.Nodup := by
  have h1 := dedup_le (Kqv5.nats l) []
  have h2 := dedup_eq (Kqv5.nats l) []
  rw [nats_nodup, nats_len] at h2
  rw [nats_len] at h1
  simp only [List.length_nil, Nat.zero_add, List.not_mem_nil, not_false_eq_true, implies_true, and_true] at h1 h2
  by_cases c : l.Nodup
  · have := h2.mpr c
    rw [decide_eq_false (by omega), decide_eq_true c]; rfl
  · have : ¬ ((Kqv5.nats l).foldl step_dedup []).length = l.length := fun z => c (h2.mp z)
    rw [decide_eq_true (by omega), decide_eq_false c]; rfl
def refS (h : Hall) (l : List Nat) : Int := if (l.all fun i => decide (i < h.blades.length)) = true then (if l.Nodup then 0 else -22) else -2
def sp_refusal_unless_several (T : Txt K mg) : Sp := fun vs H Q _ => ∃ (wk p : Addr) (r : Rep) (st : Bool) (h : Hall) (l : List Nat), vs = [.ref wk, .ref p] ∧ WA T H wk r st h ∧ H p = some (.lst (vn l)) ∧ l ≠ [] ∧ l.length ≤ 100 ∧ ∀ H', Same H H' → Q (.int (refS h l)) H'
theorem ok_refusal_unless_several (T : Txt K mg) : FnOk P w K mg base CX0 2 T.f_refusal_unless_several T.fd_refusal_unless_several ["works", "numbers"] (sp_refusal_unless_several T) := by
  refine T.F_refusal_unless_several.ok sc_refusal_unless_several (fun vs H Q E h => ?_) (fun cdv A outer s H vs Q E hr h => ?_)
  · obtain ⟨wk, p, r, st, h, l, rfl, _⟩ := h
    rfl
  · obtain ⟨wk, p, r, st, h, l, rfl, W, hp, hne, hlen, k⟩ := h
    refine ⟨_, (pss_cons (ps_if (pt_not (pt_val (pe_meth (pv 0) T.cl_Works T.m_Works_has_blades (ok_Works_has_blades T) (hr.mono (by decide)) T.b_Works_has_blades .nil pass0 (pa_cons (pv 1) pa_nil)))) (pss_one (ps_ret (pe_glob (v := V.int (-2)) (by rfl) T.mg_NO_SUCH ⟨_, rfl⟩))) (pss_nil))
      (pss_cons (ps_if (pt_cmpR op_lt (pe_callB cr_lenset (by rfl) T.no_len PySem.boot_len (pa_cons (pe_callTy (cr_set rfl) (by rfl) T.no_set boot_setB (pa_cons (pv 1) pa_nil)) pa_nil)) (pe_callB call_len_seq (by rfl) T.no_len PySem.boot_len (pa_cons (pv 1) pa_nil)) (nomark _)) (pss_one (ps_ret (pe_glob (v := V.int (-22)) (by rfl) T.mg_WRONG ⟨_, rfl⟩))) (pss_nil))
      (pss_one (ps_ret (pe_int))))), ?_⟩
    refine ⟨_, rfl, wk, _, _, rfl, W.ob, rfl, _, rfl, wk, p, r, st, h, l, rfl, W, hp, hne, _, rfl, ?_⟩
    refine ite_b (fun e => ?_) (fun e => ?_)
    · have := k _ (Same.refl _)
      unfold refS at this
      rw [if_neg (by rw [not_t e]; decide)] at this
      exact this
    · refine ⟨_, rfl, p, Kqv5.nats l, rfl, SqL.of hp, by rw [nats_len]; omega, fun q hq => ?_⟩
      have s1 : Same H (upd H q (.set (fun k => ((Kqv5.nats l).foldl step_dedup []).any (· == k)) ((Kqv5.nats l).foldl step_dedup []).length)) := fun b u e => by rw [upd_ne (ne_of_none e hq)]; exact e
      refine ⟨q, _, _, rfl, upd_same, _, rfl, p, _, rfl, .inl (SqL.of (s1 _ _ hp)), _, _, rfl, rfl, _, rfl, ?_⟩
      rw [vn_len, dedup_lt]
      have := k _ s1
      unfold refS at this
      rw [if_pos (not_f e)] at this
      refine ite_b (fun e2 => ?_) (fun e2 => ?_)
      · rw [if_neg (of_decide_eq_false (not_t e2))] at this
        exact this
      · rw [if_pos (of_decide_eq_true (not_f e2))] at this
        exact this
/-! ### what a reply promises -/
def WAo (T : Txt K mg) (H : Hp) (wk : Addr) (r : Rep) : Option Hall → Prop
  | none => WA T H wk r false ⟨0, 1, [], []⟩
  | some h => WA T H wk r true h ∧ M.Wf h
theorem WAo.same {s : Option Hall} (W : WAo T H wk r s) (e : Same H H') : WAo T H' wk r s := by
  cases s with
  | none => exact WA.same W e
  | some h => exact ⟨W.1.same e, W.2⟩
def Post (T : Txt K mg) (wk : Addr) (r : Rep) (H : Hp) (Q : VK) (s : Option Hall) (c : Kqv5.Call) : Prop := ∀ H' r' q, WAo T H' wk r' (Kqv5.step s c).1 → Grow wk H r r' → Keep wk r H H' → H q = none →
  H' q = some (.lst ((Kqv5Neutral.tell (Kqv5.step s c).2).map V.int)) → Q (.ref q) H'
/-- a list that is made and handed back -/
theorem fin_lst {Q : VK} {s s' : Option Hall} {c : Kqv5.Call} {a : Kqv5.Ans} {r2 : Rep} {H2 : Hp} (P : Post T wk r H Q s c) (e : Kqv5.step s c = (s', a)) (W2 : WAo T H2 wk r2 s') (g : Grow wk H r r2) (k : Keep wk r H H2) {xs : List V} (hx : xs = (Kqv5Neutral.tell a).map V.int) :
    ∀ q, H2 q = none → Q (.ref q) (upd H2 q (.lst xs)) := fun q hq => by
  have s2 : Same H2 (upd H2 q (.lst xs)) := fun b u e => by rw [upd_ne (ne_of_none e hq)]; exact e
  refine P _ r2 q (by rw [e]; exact W2.same s2) g ⟨fun c o e n => s2 _ _ (k.k c o e n), fun c z => k.d c (s2.free z)⟩ (k.d q hq) ?_
  rw [upd_same, hx, e]
theorem fin_num {Q : VK} {s s' : Option Hall} {c : Kqv5.Call} {v : Int} {r2 : Rep} {H2 : Hp} (P : Post T wk r H Q s c) (e : Kqv5.step s c = (s', .num v)) (W2 : WAo T H2 wk r2 s') (g : Grow wk H r r2) (k : Keep wk r H H2) :
    ([V.int v].length ≤ sizeLine ∧ ∀ q, H2 q = none → Q (.ref q) (upd H2 q (.lst [V.int v]))) := ⟨by show 1 ≤ sizeLine; decide, fin_lst P e W2 g k rfl⟩
/-- .. where nothing was changed -/
theorem fin_same {Q : VK} {s : Option Hall} {c : Kqv5.Call} {v : Int} {H2 : Hp} (P : Post T wk r H Q s c) (e : Kqv5.step s c = (s, .num v)) (W : WAo T H wk r s) (s2 : Same H H2) :
    ([V.int v].length ≤ sizeLine ∧ ∀ q, H2 q = none → Q (.ref q) (upd H2 q (.lst [V.int v]))) := fin_num P e (W.same s2) Grow.refl (same_keep s2)
/-- the works with one blade changed -/
theorem WA.blade_keep {i : Nat} {a : Addr} (W : WA T H wk r st h) (hi : r.as[i]? = some a) {h' : Hall} (W' : WA T H' wk r st h') (kp : ∀ c o, H c = some o → c ≠ a → H' c = some o) : Keep wk r H H' := by
  refine ⟨fun c o e n => kp c o e fun z => n (.inr (.inr (.inr (.inl (by rw [z]; exact List.mem_of_getElem? hi))))), fun c e => ?_⟩
  cases e0 : H c with
  | none => rfl
  | some o =>
    by_cases z : c = a
    · obtain ⟨_, _, _, _, dx, q⟩ := W'.mem (List.mem_of_getElem? hi)
      rw [z, q] at e; cases e
    · rw [kp c o e0 z] at e; cases e
def sp_reply_start (T : Txt K mg) : Sp := fun vs H Q _ => ∃ (wk p : Addr) (r : Rep) (s : Option Hall) (m u : Nat), vs = [.ref wk, .ref p] ∧ WAo T H wk r s ∧ H p = some (.lst (vn [m, u])) ∧ Post T wk r H Q s (.start m u)
theorem ok_reply_start (T : Txt K mg) : FnOk P w K mg base CX0 2 T.f_reply_start T.fd_reply_start ["works", "numbers"] (sp_reply_start T) := by
  refine T.F_reply_start.ok sc_reply_start (fun vs H Q E h => ?_) (fun cdv A outer s H vs Q E hr h => ?_)
  · obtain ⟨wk, p, r, s, m, u, rfl, _⟩ := h
    rfl
  · obtain ⟨wk, p, r, so, m, u, rfl, W, hp, k⟩ := h
    refine ⟨_, (pss_cons (ps_set (i := 2) sc_reply_start.nd rfl (by first | exact Or.inl rfl | exact Or.inr rfl) (pe_ix ix_list (pv 1) (pe_int) (fun _ _ => rfl)))
      (pss_cons (ps_set (i := 3) sc_reply_start.nd rfl (by first | exact Or.inl rfl | exact Or.inr rfl) (pe_ix ix_list (pv 1) (pe_int) (fun _ _ => rfl)))
      (pss_cons (ps_if (PW.pt (pw_or (pt_cmpR op_gt (pv 2) (pe_glob (v := V.int 10000) (by rfl) T.mg_GREATEST_MOST ⟨_, rfl⟩) (nomark _)) (pw_or1 (pt_not (pt_chain op_le op_le (pe_int) (pv 3) (pe_glob (v := V.int 1000) (by rfl) T.mg_GREATEST_UNIT ⟨_, rfl⟩)))))) (pss_one (ps_ret (pe_lst (pa_cons (pe_glob (v := V.int (-22)) (by rfl) T.mg_WRONG ⟨_, rfl⟩) pa_nil)))) (pss_nil))
      (pss_cons (ps_expr (pe_meth (pv 0) T.cl_Works T.m_Works_begin (ok_Works_begin T) (hr.mono (by decide)) T.b_Works_begin .nil pass0 (pa_cons (pv 2) (pa_cons (pv 3) pa_nil))))
      (pss_one (ps_ret (pe_lst (pa_cons (pe_int) pa_nil)))))))), ?_⟩
    have hl : SqL K H p (vn [m, u]) := SqL.of hp
    refine ⟨_, rfl, p, _, _, _, rfl, rfl, hl, atI_nat (j := 0) (vn_at rfl), ?_⟩
    refine ⟨_, rfl, p, _, _, _, rfl, rfl, hl, atI_nat (j := 1) (vn_at rfl), ?_⟩
    have bad : (10000 < m ∨ u = 0 ∨ 1000 < u) → Kqv5.step so (.start m u) = (so, .num (-22)) := fun c => by
      cases so <;> (unfold Kqv5.step; simp only; rw [if_pos c])
    have good : ¬ (10000 < m ∨ u = 0 ∨ 1000 < u) → Kqv5.step so (.start m u) = (some ⟨m, u, [], []⟩, .num 0) := fun c => by
      cases so <;> (unfold Kqv5.step; simp only; rw [if_neg c])
    obtain ⟨st, h, W0⟩ : ∃ st h, WA T H wk r st h := by
      cases so with
      | none => exact ⟨_, _, W⟩
      | some h => exact ⟨_, _, W.1⟩
    refine ⟨_, rfl, _, _, rfl, rfl, _, rfl, ?_⟩
    refine ite_b (fun e => iteT (fin_same k (bad (.inl ?_)) W (Same.refl _))) (fun e => ?_)
    · have := of_decide_eq_true e; omega
    have c1 := of_decide_eq_false e
    refine ⟨_, rfl, _, _, rfl, rfl, _, rfl, ?_⟩
    refine ite_b (fun e2 => ?_) (fun e2 => ⟨_, rfl, iteT (fin_same k (bad (.inr (.inl ?_))) W (Same.refl _))⟩)
    · refine ⟨_, _, rfl, rfl, _, rfl, ?_⟩
      have c2 := of_decide_eq_true e2
      refine ite_b (fun e3 => fin_same k (bad (.inr (.inr ?_))) W (Same.refl _)) (fun e3 => ?_)
      · have := of_decide_eq_false (not_t e3); omega
      have c3 := of_decide_eq_true (not_f e3)
      refine ⟨_, rfl, wk, _, _, rfl, W0.ob, rfl, _, rfl, _, rfl, wk, r, st, h, m, u, rfl, W0, fun H1 lb dt W1 hlb hdt kp => ?_⟩
      refine fin_num k (good (by omega)) (H2 := H1) ⟨W1, M.Wf.start (by omega) (by omega) (by omega)⟩ ?_ ⟨fun c o e n => kp c o e fun z => n (.inl z), fun c e => ?_⟩
      · intro c hc
        rcases hc with z | z | z | z | z
        · exact .inl (.inl z)
        · exact .inr (by rw [z]; exact hlb)
        · exact .inr (by rw [z]; exact hdt)
        · exact absurd z (by simp)
        · exact absurd z (by simp)
      · cases e0 : H c with
        | none => rfl
        | some o =>
          by_cases z : c = wk
          · rw [z, W1.ob] at e; cases e
          · rw [kp c o e0 z] at e; cases e
    · have := of_decide_eq_false e2; omega
def sp_reply_blade (T : Txt K mg) : Sp := fun vs H Q _ => ∃ (wk p : Addr) (r : Rep) (h : Hall) (k m : Nat), vs = [.ref wk, .ref p] ∧ WA T H wk r true h ∧ M.Wf h ∧ H p = some (.lst (vn [k, m])) ∧ Post T wk r H Q (some h) (.blade k m)
theorem ok_reply_blade (T : Txt K mg) : FnOk P w K mg base CX0 4 T.f_reply_blade T.fd_reply_blade ["works", "numbers"] (sp_reply_blade T) := by
  refine T.F_reply_blade.ok sc_reply_blade (fun vs H Q E h => ?_) (fun cdv A outer s H vs Q E hr h => ?_)
  · obtain ⟨wk, p, r, h, k, m, rfl, _⟩ := h
    rfl
  · obtain ⟨wk, p, r, h, kd, m, rfl, W, wfh, hp, k⟩ := h
    refine ⟨_, (pss_cons (ps_set (i := 2) sc_reply_blade.nd rfl (by first | exact Or.inl rfl | exact Or.inr rfl) (pe_ix ix_list (pv 1) (pe_int) (fun _ _ => rfl)))
      (pss_cons (ps_set (i := 3) sc_reply_blade.nd rfl (by first | exact Or.inl rfl | exact Or.inr rfl) (pe_ix ix_list (pv 1) (pe_int) (fun _ _ => rfl)))
      (pss_cons (ps_if (PW.pt (pw_or (pt_cmpR op_gt (pv 2) (pe_glob (v := V.int 3) (by rfl) T.mg_GREATEST_KIND ⟨_, rfl⟩) (nomark _)) (pw_or1 (pt_not (pt_val (pe_call (ok_is_moment T) (hr.mono (by decide)) (by rfl) T.mg_is_moment T.F_is_moment.kp T.b_is_moment .nil pass0 (pa_cons (pv 3) pa_nil))))))) (pss_one (ps_ret (pe_lst (pa_cons (pe_glob (v := V.int (-22)) (by rfl) T.mg_WRONG ⟨_, rfl⟩) pa_nil)))) (pss_nil))
      (pss_cons (ps_if (pt_cmpR op_ge (pe_callB call_len_seq (by rfl) T.no_len PySem.boot_len (pa_cons (pe_fld (pv 0) rfl) pa_nil)) (pe_glob (v := V.int 20) (by rfl) T.mg_BLADES_AT_MOST ⟨_, rfl⟩) (nomark _)) (pss_one (ps_ret (pe_lst (pa_cons (pe_glob (v := V.int (-28)) (by rfl) T.mg_FULL ⟨_, rfl⟩) pa_nil)))) (pss_nil))
      (pss_one (ps_ret (pe_lst (pa_cons (pe_meth (pv 0) T.cl_Works T.m_Works_take_in (ok_Works_take_in T) (hr.mono (by decide)) T.b_Works_take_in .nil pass0 (pa_cons (pv 2) (pa_cons (pv 3) pa_nil))) pa_nil)))))))), ?_⟩
    have hl : SqL K H p (vn [kd, m]) := SqL.of hp
    refine ⟨_, rfl, p, _, _, _, rfl, rfl, hl, atI_nat (j := 0) (vn_at rfl), ?_⟩
    refine ⟨_, rfl, p, _, _, _, rfl, rfl, hl, atI_nat (j := 1) (vn_at rfl), ?_⟩
    have bad : (3 < kd ∨ m = 0 ∨ 100000 < m) → Kqv5.step (some h) (.blade kd m) = (some h, .num (-22)) := fun c => by
      unfold Kqv5.step; simp only; rw [if_pos c]
    refine ⟨_, rfl, _, _, rfl, rfl, _, rfl, ?_⟩
    refine ite_b (fun e => iteT (fin_same k (bad (.inl ?_)) ⟨W, wfh⟩ (Same.refl _))) (fun e => ?_)
    · have := of_decide_eq_true e; omega
    have c1 := of_decide_eq_false e
    refine ⟨_, rfl, m, rfl, _, rfl, ?_⟩
    refine ite_b (fun e2 => fin_same k (bad (.inr ?_)) ⟨W, wfh⟩ (Same.refl _)) (fun e2 => ?_)
    · have := of_decide_eq_false (not_t e2); omega
    have c2 := of_decide_eq_true (not_f e2)
    refine ⟨_, rfl, wk, _, _, _, _, rfl, W.ob, T.cl_Works, T.na_Works_blades, rfl, r.lb, _, rfl, .inl (SqL.of W.lst), _, _, rfl, rfl, _, rfl, ?_⟩
    refine ite_b (fun e3 => ?_) (fun e3 => ?_)
    · have c3 := of_decide_eq_true e3
      rw [List.length_map, W.alen] at c3
      refine fin_same k ?_ ⟨W, wfh⟩ (Same.refl _)
      unfold Kqv5.step; simp only; rw [if_neg (by omega), if_pos (by omega)]
    · have c3 := of_decide_eq_false e3
      rw [List.length_map, W.alen] at c3
      refine ⟨_, rfl, wk, _, _, rfl, W.ob, rfl, _, rfl, _, rfl, wk, r, true, h, kd, m, rfl, W, wfh.len, fun H1 x W1 hx kp => ?_⟩
      have es : Kqv5.step (some h) (.blade kd m) = (some { h with blades := h.blades ++ [⟨kd, m, 0, 0, false⟩] }, .num h.blades.length) := by
        unfold Kqv5.step; simp only; rw [if_neg (by omega), if_neg (by omega)]
      refine fin_num k es (H2 := H1) ⟨W1, wfh.blade (by omega) c2.1 c2.2 (by omega)⟩ ?_ ⟨fun c o e n => kp c o e fun z => n (.inr (.inl z)), fun c e => ?_⟩
      · intro c hc
        rcases hc with z | z | z | z | z
        · exact .inl (.inl z)
        · exact .inl (.inr (.inl z))
        · exact .inl (.inr (.inr (.inl z)))
        · rcases List.mem_append.mp (show c ∈ r.as ++ [x] from z) with z | z
          · exact .inl (.inr (.inr (.inr (.inl z))))
          · have z : c = x := by simpa using z
            exact .inr (by rw [z]; exact hx)
        · exact .inl (.inr (.inr (.inr (.inr z))))
      · cases e0 : H c with
        | none => rfl
        | some o =>
          by_cases z : c = r.lb
          · rw [z, W1.lst] at e; cases e
          · rw [kp c o e0 z] at e; cases e
end
end B
namespace B
open PySem PySem.Spec PyProof.Rows L2
open Kqv5 (Hall)
section
variable {P : Program} {w : World} {K : PySem.W.Frag} {mg : Str → Option Value} {base : Heap}
variable {T : Txt K mg} {H H' : Hp} {wk : Addr} {r : Rep} {st : Bool} {h : Hall}
theorem refF_out {i : Nat} (c : h.blades[i]? = none) : refF h i = -2 := by
  unfold refF; rw [if_pos (List.getElem?_eq_none_iff.mp c)]
theorem refF_in {i : Nat} {b : Kqv5.Blade} (c : h.blades[i]? = some b) : refF h i = if b.set ≠ 0 ∨ b.gone = true then -16 else 0 := by
  unfold refF
  rw [if_neg (by have := (List.getElem?_eq_some_iff.mp c).1; omega), M.free_of c]
  cases b.gone <;> by_cases z : b.set = 0 <;> simp [z]
def sp_reply_weigh (T : Txt K mg) : Sp := fun vs H Q _ => ∃ (wk p : Addr) (r : Rep) (h : Hall) (i m : Nat), vs = [.ref wk, .ref p] ∧ WA T H wk r true h ∧ M.Wf h ∧ H p = some (.lst (vn [i, m])) ∧ Post T wk r H Q (some h) (.weigh i m)
theorem ok_reply_weigh (T : Txt K mg) : FnOk P w K mg base CX0 3 T.f_reply_weigh T.fd_reply_weigh ["works", "numbers"] (sp_reply_weigh T) := by
  refine T.F_reply_weigh.ok sc_reply_weigh (fun vs H Q E h => ?_) (fun cdv A outer s H vs Q E hr h => ?_)
  · obtain ⟨wk, p, r, h, i, m, rfl, _⟩ := h
    rfl
  · obtain ⟨wk, p, r, h, i, m, rfl, W, wfh, hp, k⟩ := h
    refine ⟨_, (pss_cons (ps_set (i := 2) sc_reply_weigh.nd rfl (by first | exact Or.inl rfl | exact Or.inr rfl) (pe_ix ix_list (pv 1) (pe_int) (fun _ _ => rfl)))
      (pss_cons (ps_set (i := 3) sc_reply_weigh.nd rfl (by first | exact Or.inl rfl | exact Or.inr rfl) (pe_ix ix_list (pv 1) (pe_int) (fun _ _ => rfl)))
      (pss_cons (ps_set (i := 4) sc_reply_weigh.nd rfl (by first | exact Or.inl rfl | exact Or.inr rfl) (pe_call (ok_refusal_unless_free T) (hr.mono (by decide)) (by rfl) T.mg_refusal_unless_free T.F_refusal_unless_free.kp T.b_refusal_unless_free .nil pass0 (pa_cons (pv 0) (pa_cons (pv 2) pa_nil))))
      (pss_cons (ps_if (pt_cmpR op_lt (pv 4) (pe_int) (nomark _)) (pss_one (ps_ret (pe_lst (pa_cons (pv 4) pa_nil)))) (pss_nil))
      (pss_cons (ps_if (pt_not (pt_val (pe_call (ok_is_moment T) (hr.mono (by decide)) (by rfl) T.mg_is_moment T.F_is_moment.kp T.b_is_moment .nil pass0 (pa_cons (pv 3) pa_nil)))) (pss_one (ps_ret (pe_lst (pa_cons (pe_glob (v := V.int (-22)) (by rfl) T.mg_WRONG ⟨_, rfl⟩) pa_nil)))) (pss_nil))
      (pss_cons (ps_set (i := 5) sc_reply_weigh.nd rfl (by first | exact Or.inl rfl | exact Or.inr rfl) (pe_ix ix_list (pe_fld (pv 0) rfl) (pv 2) (fun _ _ => rfl)))
      (pss_cons (ps_set (i := 6) sc_reply_weigh.nd rfl (by first | exact Or.inl rfl | exact Or.inr rfl) (pe_meth0 (pv 5) T.cl_Blade T.m_Blade_pull (ok_Blade_pull T) (hr.mono (by decide)) T.b_Blade_pull .nil pass0))
      (pss_cons (ps_expr (pe_meth (pv 5) T.cl_Blade T.m_Blade_weigh_anew (ok_Blade_weigh_anew T) (hr.mono (by decide)) T.b_Blade_weigh_anew .nil pass0 (pa_cons (pv 3) pa_nil)))
      (pss_one (ps_ret (pe_lst (pa_cons (pv 6) pa_nil)))))))))))), ?_⟩
    have hl : SqL K H p (vn [i, m]) := SqL.of hp
    refine ⟨_, rfl, p, _, _, _, rfl, rfl, hl, atI_nat (j := 0) (vn_at rfl), ?_⟩
    refine ⟨_, rfl, p, _, _, _, rfl, rfl, hl, atI_nat (j := 1) (vn_at rfl), ?_⟩
    refine ⟨_, rfl, _, rfl, wk, r, true, h, i, rfl, W, fun H1 s1 => ?_⟩
    refine ⟨_, rfl, _, _, rfl, rfl, _, rfl, ?_⟩
    cases hb : h.blades[i]? with
    | none =>
      rw [refF_out hb]
      refine iteT ⟨_, rfl, fin_same k ?_ ⟨W, wfh⟩ s1⟩
      unfold Kqv5.step; simp only [hb]
    | some b =>
      rw [refF_in hb]
      by_cases c : b.set ≠ 0 ∨ b.gone = true
      · rw [if_pos c]
        refine iteT ⟨_, rfl, fin_same k ?_ ⟨W, wfh⟩ s1⟩
        unfold Kqv5.step; simp only [hb]; rw [if_pos c]
      · rw [if_neg c]
        refine iteF ?_
        refine ⟨_, rfl, m, rfl, _, rfl, ?_⟩
        refine ite_b (fun e => fin_same k ?_ ⟨W, wfh⟩ s1) (fun e => ?_)
        · have := of_decide_eq_false (not_t e)
          unfold Kqv5.step; simp only [hb]; rw [if_neg c, if_pos (by omega)]
        have c2 := of_decide_eq_true (not_f e)
        have W1 := W.same s1
        obtain ⟨a, b', ha, hb', Bl⟩ := W1.get (List.getElem?_eq_some_iff.mp hb).1
        rw [hb] at hb'
        cases hb'
        obtain ⟨dx, hdx⟩ := id Bl
        refine rd_blade W1 rfl ha (fun Q' q => ⟨_, rfl, q⟩) ?_
        refine ⟨_, rfl, a, dx, _, rfl, hdx, rfl, a, b, rfl, Bl, ?_⟩
        refine ⟨_, rfl, a, dx, _, rfl, hdx, rfl, _, rfl, a, b, m, rfl, Bl, fun H2 B2 kp2 => ?_⟩
        have W2 := W1.blade (b' := { b with moment := m, added := 0 }) ha hb B2 kp2
        have es : Kqv5.step (some h) (.weigh i m) = (some { h with blades := h.blades.set i { b with moment := m, added := 0 } }, .num (b.moment + b.added : Nat)) := by
          unfold Kqv5.step; simp only [hb]; rw [if_neg c, if_neg (by omega)]
        have wb := wfh.bl i b hb
        refine ⟨_, rfl, fin_num k es (H2 := H2) ⟨W2, wfh.one hb rfl rfl ⟨wb.kind, c2, ?_, wb.gone⟩⟩ Grow.refl ((same_keep s1).trans Grow.refl (W1.blade_keep ha W2 kp2))⟩
        show m + 0 ≤ 110000
        omega
def sp_reply_scrap (T : Txt K mg) : Sp := fun vs H Q _ => ∃ (wk p : Addr) (r : Rep) (h : Hall) (i : Nat), vs = [.ref wk, .ref p] ∧ WA T H wk r true h ∧ M.Wf h ∧ H p = some (.lst (vn [i])) ∧ Post T wk r H Q (some h) (.scrap i)
theorem ok_reply_scrap (T : Txt K mg) : FnOk P w K mg base CX0 3 T.f_reply_scrap T.fd_reply_scrap ["works", "numbers"] (sp_reply_scrap T) := by
  refine T.F_reply_scrap.ok sc_reply_scrap (fun vs H Q E h => ?_) (fun cdv A outer s H vs Q E hr h => ?_)
  · obtain ⟨wk, p, r, h, i, rfl, _⟩ := h
    rfl
  · obtain ⟨wk, p, r, h, i, rfl, W, wfh, hp, k⟩ := h
    refine ⟨_, (pss_cons (ps_set (i := 2) sc_reply_scrap.nd rfl (by first | exact Or.inl rfl | exact Or.inr rfl) (pe_ix ix_list (pv 1) (pe_int) (fun _ _ => rfl)))
      (pss_cons (ps_set (i := 3) sc_reply_scrap.nd rfl (by first | exact Or.inl rfl | exact Or.inr rfl) (pe_call (ok_refusal_unless_free T) (hr.mono (by decide)) (by rfl) T.mg_refusal_unless_free T.F_refusal_unless_free.kp T.b_refusal_unless_free .nil pass0 (pa_cons (pv 0) (pa_cons (pv 2) pa_nil))))
      (pss_cons (ps_if (pt_cmpR op_lt (pv 3) (pe_int) (nomark _)) (pss_one (ps_ret (pe_lst (pa_cons (pv 3) pa_nil)))) (pss_nil))
      (pss_cons (ps_set (i := 4) sc_reply_scrap.nd rfl (by first | exact Or.inl rfl | exact Or.inr rfl) (pe_ix ix_list (pe_fld (pv 0) rfl) (pv 2) (fun _ _ => rfl)))
      (pss_cons (ps_fld (pv 4) (pe_bl) rfl)
      (pss_one (ps_ret (pe_lst (pa_cons (pe_meth0 (pv 4) T.cl_Blade T.m_Blade_pull (ok_Blade_pull T) (hr.mono (by decide)) T.b_Blade_pull .nil pass0) pa_nil))))))))), ?_⟩
    have hl : SqL K H p (vn [i]) := SqL.of hp
    refine ⟨_, rfl, p, _, _, _, rfl, rfl, hl, atI_nat (j := 0) (vn_at rfl), ?_⟩
    refine ⟨_, rfl, _, rfl, wk, r, true, h, i, rfl, W, fun H1 s1 => ?_⟩
    refine ⟨_, rfl, _, _, rfl, rfl, _, rfl, ?_⟩
    cases hb : h.blades[i]? with
    | none =>
      rw [refF_out hb]
      refine iteT ⟨_, rfl, fin_same k ?_ ⟨W, wfh⟩ s1⟩
      unfold Kqv5.step; simp only [hb]
    | some b =>
      rw [refF_in hb]
      by_cases c : b.set ≠ 0 ∨ b.gone = true
      · rw [if_pos c]
        refine iteT ⟨_, rfl, fin_same k ?_ ⟨W, wfh⟩ s1⟩
        unfold Kqv5.step; simp only [hb]; rw [if_pos c]
      · rw [if_neg c]
        refine iteF ?_
        have W1 := W.same s1
        obtain ⟨a, b', ha, hb', Bl⟩ := W1.get (List.getElem?_eq_some_iff.mp hb).1
        rw [hb] at hb'
        cases hb'
        obtain ⟨dx, hdx⟩ := id Bl
        refine rd_blade W1 rfl ha (fun Q' q => ⟨_, rfl, q⟩) ?_
        refine ⟨_, rfl, a, _, dx, _, rfl, hdx, T.cl_Blade, T.na_Blade_gone, by show 5 < 1000; decide, ?_⟩
        have B2 : BladeAt T (upd H1 a (.ins T.C_Blade dx (putF "gone" (V.bl true) (bf b)))) a { b with gone := true } := ⟨dx, by rw [upd_same]; rfl⟩
        have kp2 : ∀ c o, H1 c = some o → c ≠ a → (upd H1 a (.ins T.C_Blade dx (putF "gone" (V.bl true) (bf b)))) c = some o := fun c o e n => by rw [upd_ne n]; exact e
        have W2 := W1.blade (b' := { b with gone := true }) ha hb B2 kp2
        refine ⟨_, rfl, a, dx, _, rfl, upd_same, rfl, a, { b with gone := true }, rfl, B2, ?_⟩
        have es : Kqv5.step (some h) (.scrap i) = (some { h with blades := h.blades.set i { b with gone := true } }, .num (b.moment + b.added : Nat)) := by
          unfold Kqv5.step; simp only [hb]; rw [if_neg c]
        have wb := wfh.bl i b hb
        refine fin_num k es ⟨W2, wfh.one hb rfl rfl ⟨wb.kind, wb.mom, wb.pull, fun _ => ?_⟩⟩ Grow.refl ((same_keep s1).trans Grow.refl (W1.blade_keep ha W2 kp2))
        show b.set = 0
        by_cases z : b.set = 0
        · exact z
        · exact absurd (.inl z) c
theorem three_eq {i j k : Nat} : Kqv5.three h i j k = [i, j, k].all fun i => decide (i < h.blades.length) := by
  unfold Kqv5.three; simp [Bool.and_assoc]
theorem apart_eq {i j k : Nat} : Kqv5.apart i j k = decide [i, j, k].Nodup := by
  unfold Kqv5.apart
  rw [Bool.eq_iff_iff, decide_eq_true_eq]
  simp [bne_iff_ne]
  constructor
  · rintro ⟨⟨h1, h2⟩, h3⟩; exact ⟨⟨h1, h3⟩, h2⟩
  · rintro ⟨⟨h1, h3⟩, h2⟩; exact ⟨⟨h1, h2⟩, h3⟩
theorem nats_sum : ∀ l : List Nat, (Kqv5.nats l).sum = ((Kqv5.sum l : Nat) : Int)
  | [] => rfl
  | a :: l => by
    show ((a : Int) :: Kqv5.nats l).sum = ((a + Kqv5.sum l : Nat) : Int)
    rw [List.sum_cons, nats_sum l]; simp
/-- the three ways of a refusal: no such blade, two alike, neither -/
theorem refS_cases (h : Hall) (i j k : Nat) : (refS h [i, j, k] = -2 ∧ Kqv5.three h i j k = false) ∨ (refS h [i, j, k] = -22 ∧ Kqv5.three h i j k = true ∧ Kqv5.apart i j k = false) ∨
    (refS h [i, j, k] = 0 ∧ Kqv5.three h i j k = true ∧ Kqv5.apart i j k = true ∧ [i, j, k].Nodup ∧ ∀ x ∈ [i, j, k], x < h.blades.length) := by
  unfold refS
  rw [three_eq, apart_eq]
  cases e : [i, j, k].all fun i => decide (i < h.blades.length) with
  | false => exact .inl ⟨if_neg (by decide), rfl⟩
  | true =>
    right
    rw [if_pos rfl]
    by_cases c : [i, j, k].Nodup
    · exact .inr ⟨if_pos c, rfl, decide_eq_true c, c, fun x hx => by simpa using List.all_eq_true.mp e x hx⟩
    · exact .inl ⟨if_neg c, rfl, decide_eq_false c⟩
def sp_reply_needs (T : Txt K mg) : Sp := fun vs H Q _ => ∃ (wk p : Addr) (r : Rep) (h : Hall) (i j k : Nat), vs = [.ref wk, .ref p] ∧ WA T H wk r true h ∧ M.Wf h ∧ H p = some (.lst (vn [i, j, k])) ∧ Post T wk r H Q (some h) (.needs i j k)
theorem ok_reply_needs (T : Txt K mg) : FnOk P w K mg base CX0 4 T.f_reply_needs T.fd_reply_needs ["works", "numbers"] (sp_reply_needs T) := by
  refine T.F_reply_needs.ok sc_reply_needs (fun vs H Q E h => ?_) (fun cdv A outer s H vs Q E hr h => ?_)
  · obtain ⟨wk, p, r, h, i, j, k, rfl, _⟩ := h
    rfl
  · obtain ⟨wk, p, r, h, i, j, k, rfl, W, wfh, hp, post⟩ := h
    refine ⟨_, (pss_cons (ps_set (i := 2) sc_reply_needs.nd rfl (by first | exact Or.inl rfl | exact Or.inr rfl) (pe_call (ok_refusal_unless_several T) (hr.mono (by decide)) (by rfl) T.mg_refusal_unless_several T.F_refusal_unless_several.kp T.b_refusal_unless_several .nil pass0 (pa_cons (pv 0) (pa_cons (pv 1) pa_nil))))
      (pss_cons (ps_if (pt_cmpR op_lt (pv 2) (pe_int) (nomark _)) (pss_one (ps_ret (pe_lst (pa_cons (pv 2) pa_nil)))) (pss_nil))
      (pss_cons (ps_set (i := 3) sc_reply_needs.nd rfl (by first | exact Or.inl rfl | exact Or.inr rfl) (pe_meth (pv 0) T.cl_Works T.m_Works_units_for (ok_Works_units_for T) (hr.mono (by decide)) T.b_Works_units_for .nil pass0 (pa_cons (pv 1) pa_nil)))
      (pss_one (ps_ret (pe_op op_cat (pe_lst (pa_cons (pe_callB (cr_sum rfl) (by rfl) T.no_sum boot_sumB (pa_cons (pv 3) pa_nil)) pa_nil)) (pv 3))))))), ?_⟩
    refine ⟨_, rfl, _, rfl, wk, p, r, true, h, [i, j, k], rfl, W, hp, by simp, by simp, fun H1 s1 => ?_⟩
    refine ⟨_, rfl, _, _, rfl, rfl, _, rfl, ?_⟩
    rcases refS_cases h i j k with ⟨e, c1⟩ | ⟨e, c1, c2⟩ | ⟨e, c1, c2, nd, hv⟩
    · rw [e]
      refine iteT ⟨_, rfl, fin_same post ?_ ⟨W, wfh⟩ s1⟩
      unfold Kqv5.step; simp only; rw [if_pos c1]
    · rw [e]
      refine iteT ⟨_, rfl, fin_same post ?_ ⟨W, wfh⟩ s1⟩
      unfold Kqv5.step; simp only; rw [if_neg (by rw [c1]; decide), if_pos c2]
    · rw [e]
      refine iteF ?_
      have W1 := W.same s1
      refine ⟨_, rfl, wk, _, _, rfl, W1.ob, rfl, _, rfl, wk, p, r, true, h, [i, j, k], rfl, W1, wfh, s1 _ _ hp, by simp, by simp, hv, fun H2 q s2 hq hq2 => ?_⟩
      refine ⟨_, rfl, q, _, rfl, SqL.of hq2, by show 1 ≤ sizeLine; decide, fun p2 hp2 => ?_⟩
      have s3 : Same H2 (upd H2 p2 (.lst [V.int (Kqv5.nats (Kqv5.needs h.unit ([i, j, k].map (Kqv5.full h)))).sum])) := fun b u e => by rw [upd_ne (ne_of_none e hp2)]; exact e
      refine ⟨_, rfl, p2, q, _, _, rfl, rfl, upd_same, s3 _ _ hq2, ?_, ?_⟩
      · show 1 + _ ≤ _
        rw [vn_len]
        show 1 + 3 ≤ sizeLine
        decide
      · have s4 := (s1.trans s2).trans s3
        refine fin_lst post (a := .some_ (Kqv5.cost h.unit ([i, j, k].map (Kqv5.full h))) (Kqv5.nats (Kqv5.needs h.unit ([i, j, k].map (Kqv5.full h))))) ?_ (WAo.same (s := some h) ⟨W, wfh⟩ s4) Grow.refl (same_keep s4) ?_
        · unfold Kqv5.step; simp only; rw [if_neg (by rw [c1]; decide), if_neg (by rw [c2]; decide)]
        · rw [nats_sum]; rfl
def sp_reply_off (T : Txt K mg) : Sp := fun vs H Q _ => ∃ (wk p : Addr) (r : Rep) (h : Hall) (i j k : Nat), vs = [.ref wk, .ref p] ∧ WA T H wk r true h ∧ M.Wf h ∧ H p = some (.lst (vn [i, j, k])) ∧ Post T wk r H Q (some h) (.off i j k)
theorem ok_reply_off (T : Txt K mg) : FnOk P w K mg base CX0 3 T.f_reply_off T.fd_reply_off ["works", "numbers"] (sp_reply_off T) := by
  refine T.F_reply_off.ok sc_reply_off (fun vs H Q E h => ?_) (fun cdv A outer s H vs Q E hr h => ?_)
  · obtain ⟨wk, p, r, h, i, j, k, rfl, _⟩ := h
    rfl
  · obtain ⟨wk, p, r, h, i, j, k, rfl, W, wfh, hp, post⟩ := h
    refine ⟨_, (pss_cons (ps_set (i := 2) sc_reply_off.nd rfl (by first | exact Or.inl rfl | exact Or.inr rfl) (pe_call (ok_refusal_unless_several T) (hr.mono (by decide)) (by rfl) T.mg_refusal_unless_several T.F_refusal_unless_several.kp T.b_refusal_unless_several .nil pass0 (pa_cons (pv 0) (pa_cons (pv 1) pa_nil))))
      (pss_cons (ps_if (pt_cmpR op_lt (pv 2) (pe_int) (nomark _)) (pss_one (ps_ret (pe_lst (pa_cons (pv 2) pa_nil)))) (pss_nil))
      (pss_one (ps_ret (pe_lst (pa_cons (pe_call (ok_how_far_off T) (hr.mono (by decide)) (by rfl) T.mg_how_far_off T.F_how_far_off.kp T.b_how_far_off .nil pass0 (pa_cons (pe_meth (pv 0) T.cl_Works T.m_Works_pulls (ok_Works_pulls T) (hr.mono (by decide)) T.b_Works_pulls .nil pass0 (pa_cons (pv 1) pa_nil)) pa_nil)) pa_nil)))))), ?_⟩
    refine ⟨_, rfl, _, rfl, wk, p, r, true, h, [i, j, k], rfl, W, hp, by simp, by simp, fun H1 s1 => ?_⟩
    refine ⟨_, rfl, _, _, rfl, rfl, _, rfl, ?_⟩
    rcases refS_cases h i j k with ⟨e, c1⟩ | ⟨e, c1, c2⟩ | ⟨e, c1, c2, nd, hv⟩
    · rw [e]
      refine iteT ⟨_, rfl, fin_same post ?_ ⟨W, wfh⟩ s1⟩
      unfold Kqv5.step; simp only; rw [if_pos c1]
    · rw [e]
      refine iteT ⟨_, rfl, fin_same post ?_ ⟨W, wfh⟩ s1⟩
      unfold Kqv5.step; simp only; rw [if_neg (by rw [c1]; decide), if_pos c2]
    · rw [e]
      refine iteF ?_
      have W1 := W.same s1
      refine ⟨_, rfl, wk, _, _, rfl, W1.ob, rfl, _, rfl, wk, p, r, true, h, [i, j, k], rfl, W1, s1 _ _ hp, by simp, hv, fun H2 q s2 hq hq2 => ?_⟩
      refine ⟨q, _, _, _, rfl, hq2, wfh.full_le i, wfh.full_le j, wfh.full_le k, fin_same post ?_ ⟨W, wfh⟩ (s1.trans s2)⟩
      unfold Kqv5.step; simp only; rw [if_neg (by rw [c1]; decide), if_neg (by rw [c2]; decide)]
def sp_reply_match (T : Txt K mg) : Sp := fun vs H Q _ => ∃ (wk p : Addr) (r : Rep) (h : Hall) (i j k : Nat), vs = [.ref wk, .ref p] ∧ WA T H wk r true h ∧ M.Wf h ∧ H p = some (.lst (vn [i, j, k])) ∧ Post T wk r H Q (some h) (.match_ i j k)
theorem ok_reply_match (T : Txt K mg) : FnOk P w K mg base CX0 7 T.f_reply_match T.fd_reply_match ["works", "numbers"] (sp_reply_match T) := by
  refine T.F_reply_match.ok sc_reply_match (fun vs H Q E h => ?_) (fun cdv A outer s H vs Q E hr h => ?_)
  · obtain ⟨wk, p, r, h, i, j, k, rfl, _⟩ := h
    rfl
  · obtain ⟨wk, p, r, h, i, j, k, rfl, W, wfh, hp, post⟩ := h
    refine ⟨_, (pss_cons (ps_set (i := 2) sc_reply_match.nd rfl (by first | exact Or.inl rfl | exact Or.inr rfl) (pe_call (ok_refusal_unless_several T) (hr.mono (by decide)) (by rfl) T.mg_refusal_unless_several T.F_refusal_unless_several.kp T.b_refusal_unless_several .nil pass0 (pa_cons (pv 0) (pa_cons (pv 1) pa_nil))))
      (pss_cons (ps_if (pt_cmpR op_lt (pv 2) (pe_int) (nomark _)) (pss_one (ps_ret (pe_lst (pa_cons (pv 2) pa_nil)))) (pss_nil))
      (pss_cons (ps_if (pt_not (pt_val (pe_meth (pv 0) T.cl_Works T.m_Works_of_one_kind (ok_Works_of_one_kind T) (hr.mono (by decide)) T.b_Works_of_one_kind .nil pass0 (pa_cons (pv 1) pa_nil)))) (pss_one (ps_ret (pe_lst (pa_cons (pe_glob (v := V.int (-22)) (by rfl) T.mg_WRONG ⟨_, rfl⟩) pa_nil)))) (pss_nil))
      (pss_cons (ps_if (pt_not (pt_val (pe_meth (pv 0) T.cl_Works T.m_Works_all_free (ok_Works_all_free T) (hr.mono (by decide)) T.b_Works_all_free .nil pass0 (pa_cons (pv 1) pa_nil)))) (pss_one (ps_ret (pe_lst (pa_cons (pe_glob (v := V.int (-16)) (by rfl) T.mg_NOT_FREE ⟨_, rfl⟩) pa_nil)))) (pss_nil))
      (pss_cons (ps_if (pt_not (pt_val (pe_meth (pv 0) T.cl_Works T.m_Works_may_be_set (ok_Works_may_be_set T) (hr.mono (by decide)) T.b_Works_may_be_set .nil pass0 (pa_cons (pv 1) pa_nil)))) (pss_one (ps_ret (pe_lst (pa_cons (pe_glob (v := V.int (-62)) (by rfl) T.mg_TOO_MUCH ⟨_, rfl⟩) pa_nil)))) (pss_nil))
      (pss_one (ps_ret (pe_lst (pa_cons (pe_meth (pv 0) T.cl_Works T.m_Works_bind (ok_Works_bind T) (hr.mono (by decide)) T.b_Works_bind .nil pass0 (pa_cons (pv 1) pa_nil)) pa_nil))))))))), ?_⟩
    refine ⟨_, rfl, _, rfl, wk, p, r, true, h, [i, j, k], rfl, W, hp, by simp, by simp, fun H1 s1 => ?_⟩
    refine ⟨_, rfl, _, _, rfl, rfl, _, rfl, ?_⟩
    rcases refS_cases h i j k with ⟨e, c1⟩ | ⟨e, c1, c2⟩ | ⟨e, c1, c2, nd, hv⟩
    · rw [e]
      refine iteT ⟨_, rfl, fin_same post ?_ ⟨W, wfh⟩ s1⟩
      unfold Kqv5.step; simp only; rw [if_pos c1]
    · rw [e]
      refine iteT ⟨_, rfl, fin_same post ?_ ⟨W, wfh⟩ s1⟩
      unfold Kqv5.step; simp only; rw [if_neg (by rw [c1]; decide), if_pos (.inl c2)]
    · rw [e]
      refine iteF ?_
      have W1 := W.same s1
      refine ⟨_, rfl, wk, _, _, rfl, W1.ob, rfl, _, rfl, wk, p, r, true, h, i, [j, k], rfl, W1, s1 _ _ hp, by simp, hv, fun H2 s2 => ⟨_, rfl, ?_⟩⟩
      have n1 : ¬ Kqv5.three h i j k = false := by rw [c1]; decide
      have n2 : ¬ Kqv5.apart i j k = false := by rw [c2]; decide
      refine ite_b (fun e2 => fin_same post ?_ ⟨W, wfh⟩ (s1.trans s2)) (fun e2 => ?_)
      · have c3 := not_t e2
        unfold Kqv5.step; simp only
        rw [if_neg n1, if_pos ?_]
        by_cases z1 : Kqv5.kind h i = Kqv5.kind h j
        · by_cases z2 : Kqv5.kind h j = Kqv5.kind h k
          · exact absurd c3 (by simp [z1, z2])
          · exact .inr (.inr z2)
        · exact .inr (.inl z1)
      have c3 := not_f e2
      have kk : Kqv5.kind h j = Kqv5.kind h i ∧ Kqv5.kind h k = Kqv5.kind h i := by simpa using c3
      have n3 : ¬ (Kqv5.apart i j k = false ∨ Kqv5.kind h i ≠ Kqv5.kind h j ∨ Kqv5.kind h j ≠ Kqv5.kind h k) := by
        rintro (z | z | z)
        · exact n2 z
        · exact z kk.1.symm
        · exact z (kk.1.trans kk.2.symm)
      have s12 := s1.trans s2
      have W2 := W.same s12
      refine ⟨_, rfl, wk, _, _, rfl, W2.ob, rfl, _, rfl, wk, p, r, true, h, [i, j, k], rfl, W2, s12 _ _ hp, by simp, hv, fun H3 s3 => ⟨_, rfl, ?_⟩⟩
      refine ite_b (fun e3 => fin_same post ?_ ⟨W, wfh⟩ (s12.trans s3)) (fun e3 => ?_)
      · unfold Kqv5.step; simp only
        rw [if_neg n1, if_neg n3, if_pos (not_t e3)]
      have c4 := not_f e3
      have s13 := s12.trans s3
      have W3 := W.same s13
      refine ⟨_, rfl, wk, _, _, rfl, W3.ob, rfl, _, rfl, wk, p, r, true, h, [i, j, k], rfl, W3, wfh, s13 _ _ hp, by simp, by simp, hv, fun H4 s4 => ⟨_, rfl, ?_⟩⟩
      refine ite_b (fun e4 => fin_same post ?_ ⟨W, wfh⟩ (s13.trans s4)) (fun e4 => ?_)
      · unfold Kqv5.step; simp only
        rw [if_neg n1, if_neg n3, if_neg (by rw [c4]; decide), if_pos (not_t e4)]
      have c5 := not_f e4
      have s14 := s13.trans s4
      have W4 := W.same s14
      refine ⟨_, rfl, wk, _, _, rfl, W4.ob, rfl, _, rfl, wk, p, r, true, h, [i, j, k], rfl, W4, wfh, s14 _ _ hp, by simp, nd, by simp, hv, fun H5 r5 W5 g5 k5 => ?_⟩
      have nd' : (i ≠ j ∧ i ≠ k) ∧ j ≠ k := by simpa using nd
      refine fin_num post (s' := some (Kqv5.matched h [i, j, k])) ?_ ⟨W5, wfh.matched nd'.1.1 nd'.2 nd'.1.2 kk.1.symm (kk.1.trans kk.2.symm) fun x hx => List.all_eq_true.mp c4 x hx⟩ (fun c hc => ?_) ((same_keep s14).trans Grow.refl k5)
      · unfold Kqv5.step; simp only
        rw [if_neg n1, if_neg n3, if_neg (by rw [c4]; decide), if_neg (by rw [c5]; decide)]
      · rcases g5 c hc with z | z
        · exact .inl z
        · exact .inr (s14.free z)
def sp_reply_set (T : Txt K mg) : Sp := fun vs H Q _ => ∃ (wk p : Addr) (r : Rep) (h : Hall) (n : Nat), vs = [.ref wk, .ref p] ∧ WA T H wk r true h ∧ M.Wf h ∧ H p = some (.lst (vn [n])) ∧ Post T wk r H Q (some h) (.set n)
theorem ok_reply_set (T : Txt K mg) : FnOk P w K mg base CX0 1 T.f_reply_set T.fd_reply_set ["works", "numbers"] (sp_reply_set T) := by
  refine T.F_reply_set.ok sc_reply_set (fun vs H Q E h => ?_) (fun cdv A outer s H vs Q E hr h => ?_)
  · obtain ⟨wk, p, r, h, n, rfl, _⟩ := h
    rfl
  · obtain ⟨wk, p, r, h, n, rfl, W, wfh, hp, post⟩ := h
    refine ⟨_, (pss_cons (ps_set (i := 2) sc_reply_set.nd rfl (by first | exact Or.inl rfl | exact Or.inr rfl) (pe_ix ix_list (pv 1) (pe_int) (fun _ _ => rfl)))
      (pss_cons (ps_if (pt_cmp (pc_dnotin (hu_of hr) (pv 2) (pe_fld (pv 0) rfl))) (pss_one (ps_ret (pe_lst (pa_cons (pe_glob (v := V.int (-2)) (by rfl) T.mg_NO_SUCH ⟨_, rfl⟩) pa_nil)))) (pss_nil))
      (pss_cons (ps_set (i := 3) sc_reply_set.nd rfl (by first | exact Or.inl rfl | exact Or.inr rfl) (pe_dget (hu_of hr) (pe_fld (pv 0) rfl) (pv 2) (fun _ _ => rfl)))
      (pss_one (ps_ret (pe_op op_cat (pe_lst (pa_cons (pe_callB call_len_seq (by rfl) T.no_len PySem.boot_len (pa_cons (pv 3) pa_nil)) pa_nil)) (pv 3))))))), ?_⟩
    have hl : SqL K H p (vn [n]) := SqL.of hp
    refine ⟨_, rfl, p, _, _, _, rfl, rfl, hl, atI_nat (j := 0) (vn_at rfl), ?_⟩
    refine ⟨_, rfl, _, rfl, wk, _, _, _, _, rfl, W.ob, T.cl_Works, T.na_Works_trios, rfl, r.dt, _, rfl, DGet.k (k := Sum.inl ((n : Nat) : Int)) W.dct, _, rfl, ?_⟩
    obtain ⟨e0, g0⟩ | ⟨l, t, e0, hl0, g0, hn, hlt⟩ := W.look n
    · rw [e0]
      refine iteT (fin_same post ?_ ⟨W, wfh⟩ (Same.refl _))
      unfold Kqv5.step; simp only [g0]
    · rw [e0]
      refine iteF ?_
      refine ⟨_, rfl, wk, _, _, _, _, rfl, W.ob, T.cl_Works, T.na_Works_trios, rfl, _, rfl, r.dt, _, rfl, .inl ⟨_, Sum.inl ((n : Nat) : Int), .inl W.dct, rfl, e0.symm⟩, ?_⟩
      obtain ⟨⟨i1, i2, i3, rt, _⟩, _⟩ := wfh.st n t hn
      refine ⟨_, rfl, l, _, rfl, .inl (SqL.of hlt), by show 1 ≤ sizeLine; decide, fun p2 hp2 => ?_⟩
      have s3 : Same H (upd H p2 (.lst [V.int ((vn t).length : Nat)])) := fun b u e => by rw [upd_ne (ne_of_none e hp2)]; exact e
      refine ⟨_, rfl, p2, l, _, _, rfl, rfl, upd_same, s3 _ _ hlt, ?_, ?_⟩
      · show 1 + _ ≤ _
        rw [vn_len, rt]
        show 1 + 3 ≤ sizeLine
        decide
      · refine fin_lst post (a := Kqv5.row t) ?_ (WAo.same (s := some h) ⟨W, wfh⟩ s3) Grow.refl (same_keep s3) ?_
        · unfold Kqv5.step; simp only [g0]
        · rw [vn_len]; rfl
def sp_reply_part (T : Txt K mg) : Sp := fun vs H Q _ => ∃ (wk p : Addr) (r : Rep) (h : Hall) (n : Nat), vs = [.ref wk, .ref p] ∧ WA T H wk r true h ∧ M.Wf h ∧ H p = some (.lst (vn [n])) ∧ Post T wk r H Q (some h) (.part n)
theorem ok_reply_part (T : Txt K mg) : FnOk P w K mg base CX0 3 T.f_reply_part T.fd_reply_part ["works", "numbers"] (sp_reply_part T) := by
  refine T.F_reply_part.ok sc_reply_part (fun vs H Q E h => ?_) (fun cdv A outer s H vs Q E hr h => ?_)
  · obtain ⟨wk, p, r, h, n, rfl, _⟩ := h
    rfl
  · obtain ⟨wk, p, r, h, n, rfl, W, wfh, hp, post⟩ := h
    refine ⟨_, (pss_cons (ps_set (i := 2) sc_reply_part.nd rfl (by first | exact Or.inl rfl | exact Or.inr rfl) (pe_ix ix_list (pv 1) (pe_int) (fun _ _ => rfl)))
      (pss_cons (ps_if (pt_cmp (pc_dnotin (hu_of hr) (pv 2) (pe_fld (pv 0) rfl))) (pss_one (ps_ret (pe_lst (pa_cons (pe_glob (v := V.int (-2)) (by rfl) T.mg_NO_SUCH ⟨_, rfl⟩) pa_nil)))) (pss_nil))
      (pss_cons (ps_set (i := 3) sc_reply_part.nd rfl (by first | exact Or.inl rfl | exact Or.inr rfl) (pe_meth (pv 0) T.cl_Works T.m_Works_unbind (ok_Works_unbind T) (hr.mono (by decide)) T.b_Works_unbind .nil pass0 (pa_cons (pv 2) pa_nil)))
      (pss_one (ps_ret (pe_lst (pa_cons (pe_callB (cr_sum rfl) (by rfl) T.no_sum boot_sumB (pa_cons (pe_meth (pv 0) T.cl_Works T.m_Works_pulls (ok_Works_pulls T) (hr.mono (by decide)) T.b_Works_pulls .nil pass0 (pa_cons (pv 3) pa_nil)) pa_nil)) pa_nil))))))), ?_⟩
    have hl : SqL K H p (vn [n]) := SqL.of hp
    refine ⟨_, rfl, p, _, _, _, rfl, rfl, hl, atI_nat (j := 0) (vn_at rfl), ?_⟩
    refine ⟨_, rfl, _, rfl, wk, _, _, _, _, rfl, W.ob, T.cl_Works, T.na_Works_trios, rfl, r.dt, _, rfl, DGet.k (k := Sum.inl ((n : Nat) : Int)) W.dct, _, rfl, ?_⟩
    obtain ⟨e0, g0⟩ | ⟨l, t, e0, hl0, g0, hn, hlt⟩ := W.look n
    · rw [e0]
      refine iteT (fin_same post ?_ ⟨W, wfh⟩ (Same.refl _))
      unfold Kqv5.step; simp only [g0]
    · rw [e0]
      refine iteF ?_
      refine ⟨_, rfl, wk, _, _, rfl, W.ob, rfl, _, rfl, wk, r, true, h, n, t, rfl, W, wfh, hn, fun H1 r1 l1 W1 g1 k1 hl1 => ?_⟩
      have wf1 : M.Wf _ := wfh.parted hn (fun b => { b with set := 0 }) fun b => ⟨rfl, rfl, rfl, rfl⟩
      obtain ⟨⟨i1, i2, i3, rt, _⟩, mm⟩ := wfh.st n t hn
      have hv : ∀ i ∈ t, i < (Kqv5.mark h t fun b => { b with set := 0 }).length := fun i hi => by
        obtain ⟨b, q, _⟩ := mm i hi
        rw [M.mark_len]
        exact (List.getElem?_eq_some_iff.mp q).1
      refine ⟨_, rfl, wk, _, _, rfl, W1.ob, rfl, _, rfl, wk, l1, r1, true, _, t, rfl, W1, hl1, by rw [rt]; simp, hv, fun H2 q s2 hq hq2 => ?_⟩
      have ef : (fun x => Kqv5.full { h with blades := Kqv5.mark h t fun b => { b with set := 0 }, sets := h.sets.set n none } x) = Kqv5.full h := funext fun x => M.full_mark _ _ _ _
      refine ⟨q, _, rfl, SqL.of hq2, ?_⟩
      rw [nats_sum]
      refine fin_num post (s' := some { h with blades := Kqv5.mark h t fun b => { b with set := 0 }, sets := h.sets.set n none }) ?_ ⟨W1.same s2, wf1⟩ g1 (k1.trans g1 (same_keep s2))
      unfold Kqv5.step; simp only [g0]
      rw [show List.map (Kqv5.full { h with blades := Kqv5.mark h t fun b => { b with set := 0 }, sets := h.sets.set n none }) t = t.map (Kqv5.full h) from by rw [← ef]]
end
end B
namespace B
open PySem PySem.Spec PyProof.Rows L2
open Kqv5 (Hall)
section
variable {P : Program} {w : World} {K : PySem.W.Frag} {mg : Str → Option Value} {base : Heap}
variable {T : Txt K mg} {H H' : Hp} {wk : Addr} {r : Rep} {st : Bool} {h : Hall}
theorem vn_flat (l : List Nat) : (vn l).all flatV = true := by
  rw [vn_map, List.all_map, List.all_eq_true]; intro x _; rfl
theorem inV_vn (l : List Nat) (x : Nat) : inV (V.int ((x : Nat) : Int)) (vn l) = l.contains x := by
  unfold inV
  rw [vn_map, List.any_map, Bool.eq_iff_iff, List.any_eq_true, List.contains_iff_mem]
  constructor
  · rintro ⟨y, hy, e⟩
    have : (y : Int) = (x : Int) := by simpa [eqV] using e
    have : y = x := by omega
    exact this ▸ hy
  · intro m
    exact ⟨x, m, by simp [eqV]⟩
theorem find_at {α : Type} (p : α → Bool) : ∀ (l : List α) (j : Nat) (x : α), l[j]? = some x → p x = true → (∀ (i : Nat) (y : α), i < j → l[i]? = some y → p y = false) → l.find? p = some x
  | [], j, x, h, _, _ => by simp at h
  | a :: l, 0, x, h, hp, _ => by
    have e : a = x := Option.some.inj h
    subst e
    rw [List.find?_cons, hp]
  | a :: l, j + 1, x, h, hp, hn => by
    rw [List.find?_cons, hn 0 a (by omega) rfl]
    exact find_at p l j x (by simpa using h) hp fun i y hi hy => hn (i + 1) y (by omega) (by simpa using hy)
/-- the first of the least, in the specification's words -/
def bestC (h : Hall) (i j : Nat) (c : List Nat) : List (Nat × Nat) := c.map fun x => (x, Kqv5.cost h.unit ([i, j, x].map (Kqv5.full h)))
def bestL (h : Hall) (i j : Nat) (c : List Nat) : List Int := match (bestC h i j c).find? fun p => (bestC h i j c).all fun q => decide (p.2 ≤ q.2) with
  | none => [-33]
  | some p => [(p.1 : Int), (p.2 : Int)]
def sp_best_beside (T : Txt K mg) : Sp := fun vs H Q _ => ∃ (wk p : Addr) (r : Rep) (st : Bool) (h : Hall) (i j : Nat), vs = [.ref wk, .ref p] ∧ WA T H wk r st h ∧ M.Wf h ∧ H p = some (.lst (vn [i, j])) ∧ i < h.blades.length ∧ j < h.blades.length ∧
  ∀ (H' : Hp), Same H H' → ∀ q, H' q = none → Q (.ref q) (upd H' q (.lst ((bestL h i j ((Kqv5.free h (Kqv5.kind h i)).filter fun x => x != i && x != j)).map V.int)))
theorem ok_best_beside (T : Txt K mg) : FnOk P w K mg base CX0 4 T.f_best_beside T.fd_best_beside ["works", "pair"] (sp_best_beside T) := by
  refine T.F_best_beside.ok sc_best_beside (fun vs H Q E h => ?_) (fun cdv A outer s H vs Q E hr h => ?_)
  · obtain ⟨wk, p, r, st, h, i, j, rfl, _⟩ := h
    rfl
  · obtain ⟨wk, p, r, st, h, i, j, rfl, W, wfh, hp, hi, hj, k⟩ := h
    refine ⟨_, (pss_cons (ps_set (i := 2) sc_best_beside.nd rfl (by first | exact Or.inl rfl | exact Or.inr rfl) (pe_fld (pe_ix ix_list (pe_fld (pv 0) rfl) (pe_ix ix_list (pv 1) (pe_int) (fun _ _ => rfl)) (fun _ _ => rfl)) rfl))
      (pss_cons (ps_setLc (i := 3) (own := [("x", 4)]) (g := (gName 4)) (tt := (tTest (tOp (rIn K true) (tVar 4) (tVar 1)))) (te := (tVar 4)) rfl sc_best_beside.nd rfl (by rfl) (sw_true rfl (by rfl) (by rfl) (by decide +kernel)) (pi_list (pe_meth (pv 0) T.cl_Works T.m_Works_free_of_kind (ok_Works_free_of_kind T) (hr.mono (by decide)) T.b_Works_free_of_kind .nil pass0 (pa_cons (pv 2) pa_nil))) (blkOk_by (show blkC ["works", "pair", "kind", "others", "x", "units", "fewest"] (defScope s_best_beside) _ [("x", 4)] = true by decide +kernel)) (fun _ _ _ _ _ => by exact (pg_name (i := 4) sc_best_beside.nd rfl (by first | exact Or.inl rfl | exact Or.inr rfl))) (fun _ _ _ _ _ => by exact pts_one (pt_cmpR op_notIn_seq (pv 4) (pv 1) (by with_unfolding_all rfl))) (fun _ _ _ _ _ => by exact pv 4))
      (pss_cons (ps_if (pt_not (pt_truth (pv 3) (fun _ => rfl))) (pss_one (ps_ret (pe_lst (pa_cons (pe_glob (v := V.int (-33)) (by rfl) T.mg_NONE_LEFT ⟨_, rfl⟩) pa_nil)))) (pss_nil))
      (pss_cons (ps_setLc (i := 5) (own := [("x", 4)]) (g := (gName 4)) (tt := tYes) (te := (tCB (rSum K) (tCons (tMeth T.C_Works "units_for" (sp_Works_units_for T) [] E0 (tVar 0) (tCons (tOp rCat (tVar 1) (tLst (tCons (tVar 4) tNil))) tNil)) tNil))) rfl sc_best_beside.nd rfl (by rfl) (sw_true rfl (by rfl) (by rfl) (by decide +kernel)) (pi_list (pv 3)) (blkOk_by (show blkC ["works", "pair", "kind", "others", "x", "units", "fewest"] (defScope s_best_beside) _ [("x", 4)] = true by decide +kernel)) (fun _ _ _ _ _ => by exact (pg_name (i := 4) sc_best_beside.nd rfl (by first | exact Or.inl rfl | exact Or.inr rfl))) (fun _ _ _ _ _ => by exact pts_nil) (fun _ _ _ _ _ => by exact pe_callB (cr_sum rfl) (by rfl) T.no_sum boot_sumB (pa_cons (pe_meth (pv 0) T.cl_Works T.m_Works_units_for (ok_Works_units_for T) (hr.mono (by decide)) T.b_Works_units_for .nil pass0 (pa_cons (pe_op op_cat (pv 1) (pe_lst (pa_cons (pv 4) pa_nil))) pa_nil)) pa_nil)))
      (pss_cons (ps_set (i := 6) sc_best_beside.nd rfl (by first | exact Or.inl rfl | exact Or.inr rfl) (pe_callB (cr_min rfl) (by rfl) T.no_min boot_minB (pa_cons (pv 5) pa_nil)))
      (pss_one (ps_ret (pe_lst (pa_cons (pe_ix ix_list (pv 3) (pe_bm PySem.F.plainAttrs_list PySem.F.slot_list_index PySem.F.type_list_index mt_index (pv 5) (pa_cons (pv 6) pa_nil)) (fun _ _ => rfl)) (pa_cons (pv 6) pa_nil)))))))))), ?_⟩
    have hl : SqL K H p (vn [i, j]) := SqL.of hp
    -- kind
    obtain ⟨a, b, ha, hb, dx, hdx⟩ := W.get hi
    refine rd_blade W rfl ha (fun Q' q => ⟨_, rfl, p, _, _, _, rfl, rfl, hl, atI_nat (j := 0) (vn_at rfl), q⟩) ⟨a, _, dx, _, _, rfl, hdx, T.cl_Blade, T.na_Blade_kind, bf_kind b, ?_⟩
    have ek : b.kind = Kqv5.kind h i := (M.kind_of hb).symm
    rw [ek]
    -- others
    refine ⟨_, rfl, wk, _, _, rfl, W.ob, rfl, _, rfl, wk, r, st, h, Kqv5.kind h i, rfl, W, wfh.len, fun H1 f s1 hf hf1 => ?_⟩
    have hf1' := hf1
    rw [vn_map] at hf1'
    have fl := M.free_len h (Kqv5.kind h i)
    have bl := wfh.len
    refine ⟨f, rfl, ⟨_, SqL.of hf1'⟩, fun D hD => lc_mapL (Kqv5.free h (Kqv5.kind h i)) (fun n => V.int ((n : Nat) : Int)) (fun x => x != i && x != j) (fun n => V.int ((n : Nat) : Int)) hD (SqL.of hf1') (by omega) (fun n z H2 Tr Fa hz hs h1 h2 => ?_) (fun H2 s2 hD2 => ?_)⟩
    · have s12 := s1.trans hs
      refine ⟨rfl, _, rfl, _, rfl, p, _, rfl, .inl (SqL.of (s12 _ _ hp)), rfl, vn_flat _, _, rfl, ?_⟩
      have e : (if true = true then !inV (V.int ((z : Nat) : Int)) (vn [i, j]) else inV (V.int ((z : Nat) : Int)) (vn [i, j])) = (z != i && z != j) := by
        rw [if_pos rfl, inV_vn]
        by_cases c1 : z = i <;> by_cases c2 : z = j <;> simp [c1, c2]
      refine ite_b (fun q => ?_) (fun q => ?_)
      · exact ⟨_, rfl, h1 (e.symm.trans q) H2 (Same.refl _)⟩
      · exact h2 (e.symm.trans q) H2 (Same.refl _)
    · generalize ho : (Kqv5.free h (Kqv5.kind h i)).filter (fun x => x != i && x != j) = o at hD2 k
      have ovl : ∀ x ∈ o, x < h.blades.length := fun x hx => by
        rw [← ho] at hx
        obtain ⟨b', q, _⟩ := M.free_iff.mp (M.free_mem.mp (List.mem_filter.mp hx).1).1
        exact (List.getElem?_eq_some_iff.mp q).1
      have olen : o.length ≤ 20 := by
        rw [← ho]
        exact Nat.le_trans (List.length_filter_le _ _) (by omega)
      have s02 := s1.trans s2
      refine ⟨_, rfl, _, .inl ⟨_, SqL.of hD2, rfl⟩, ?_⟩
      cases o with
      | nil =>
        refine iteT ⟨by show 1 ≤ sizeLine; decide, k H2 s02⟩
      | cons x0 o' =>
        refine iteF ?_
        generalize hoo : x0 :: o' = o at hD2 ovl olen k
        have one : o ≠ [] := by rw [← hoo]; simp
        refine ⟨_, rfl, D, rfl, ⟨_, SqL.of hD2⟩, fun D2 hDn => lc_mapL o (fun n => V.int ((n : Nat) : Int)) (fun _ => true) (fun x => V.int ((Kqv5.cost h.unit ([i, j, x].map (Kqv5.full h)) : Nat) : Int)) hDn (SqL.of hD2) (by omega) (fun n z H3 Tr Fa hz hs h1 h2 => ?_) (fun H3 s3 hD3 => ?_)⟩
        · refine ⟨rfl, iteT (B := Fa H3) ?_⟩
          have s03 := s02.trans hs
          have W3 := W.same s03
          refine ⟨_, rfl, wk, _, _, rfl, W3.ob, rfl, _, rfl, _, rfl, by show 1 ≤ sizeLine; decide, fun p2 hp2 => ?_⟩
          have s4 : Same H3 (upd H3 p2 (.lst [V.int ((z : Nat) : Int)])) := fun b u e => by rw [upd_ne (ne_of_none e hp2)]; exact e
          refine ⟨p, p2, _, _, rfl, rfl, s4 _ _ (s03 _ _ hp), upd_same, by show 2 + 1 ≤ sizeLine; decide, fun p3 hp3 => ?_⟩
          have s5 : Same (upd H3 p2 (.lst [V.int ((z : Nat) : Int)])) (upd (upd H3 p2 (.lst [V.int ((z : Nat) : Int)])) p3 (.lst (vn [i, j] ++ [V.int ((z : Nat) : Int)]))) := fun b u e => by rw [upd_ne (ne_of_none e hp3)]; exact e
          have s05 := (s03.trans s4).trans s5
          refine ⟨wk, p3, r, st, h, [i, j, z], rfl, W.same s05, wfh, by rw [upd_same]; rfl, by simp, by simp, ?_, fun H5 q s6 hq hq5 => ?_⟩
          · intro x hx
            simp at hx
            rcases hx with rfl | rfl | rfl
            · exact hi
            · exact hj
            · exact ovl _ (List.mem_of_getElem? hz)
          · refine ⟨q, _, rfl, SqL.of hq5, ?_⟩
            rw [nats_sum]
            exact h1 rfl H5 ((s4.trans s5).trans s6)
        · rw [show o.filter (fun _ => true) = o from by simp] at hD3
          have s03 := s02.trans s3
          have ec : (o.map fun x => V.int ((Kqv5.cost h.unit ([i, j, x].map (Kqv5.full h)) : Nat) : Int)) = vn (o.map fun x => Kqv5.cost h.unit ([i, j, x].map (Kqv5.full h))) := by
            rw [vn_map, List.map_map]; rfl
          rw [ec] at hD3
          refine ⟨_, rfl, D2, Kqv5.nats (o.map fun x => Kqv5.cost h.unit ([i, j, x].map (Kqv5.full h))), rfl, SqL.of hD3, by rw [nats_len, List.length_map]; exact List.length_pos_iff.mpr one, fun m hm hmin => ?_⟩
          obtain ⟨m0, hm0, rfl⟩ := List.mem_map.mp hm
          -- the first place of the least
          have ex : ∃ (n x : Nat), o[n]? = some x ∧ Kqv5.cost h.unit ([i, j, x].map (Kqv5.full h)) = m0 ∧ ∀ (n' x' : Nat), n' < n → o[n']? = some x' → Kqv5.cost h.unit ([i, j, x'].map (Kqv5.full h)) ≠ m0 := by
            obtain ⟨x, hx, ex⟩ := List.mem_map.mp hm0
            have q := M.findIdx_spec (fun x => decide (Kqv5.cost h.unit ([i, j, x].map (Kqv5.full h)) = m0)) o
            cases e : o.findIdx? fun x => decide (Kqv5.cost h.unit ([i, j, x].map (Kqv5.full h)) = m0) with
            | none =>
              rw [e] at q
              obtain ⟨n, hn⟩ := List.getElem?_of_mem hx
              exact absurd ex (of_decide_eq_false (q n x hn))
            | some n =>
              rw [e] at q
              obtain ⟨_, ⟨x1, h2, h3⟩, h4⟩ := q
              exact ⟨n, x1, h2, of_decide_eq_true h3, fun n' x' hn hx' => of_decide_eq_false (h4 n' x' hn hx')⟩
          obtain ⟨n, x, hn, hc, hfirst⟩ := ex
          refine ⟨_, rfl, _, rfl, .inl ⟨rfl, _, SqL.of hD3⟩, _, rfl, D2, _, _, n, _, rfl, rfl, SqL.of hD3, rfl, vn_flat _, vn_at (by rw [List.getElem?_map, hn]; rfl), ?_, ?_, ?_⟩
          · show ((Kqv5.cost h.unit ([i, j, x].map (Kqv5.full h)) : Nat) : Int) == ((m0 : Nat) : Int)
            rw [hc]; simp
          · intro n' z' hn' hz'
            obtain ⟨y, hy, rfl⟩ := at_map (by rw [vn_map] at hz'; exact hz')
            rw [List.getElem?_map] at hy
            obtain ⟨x', hx', rfl⟩ := Option.map_eq_some_iff.mp hy
            have := hfirst n' x' hn' hx'
            show (((Kqv5.cost h.unit ([i, j, x'].map (Kqv5.full h)) : Nat) : Int) == ((m0 : Nat) : Int)) = false
            rw [beq_eq_false_iff_ne]
            omega
          · have hDo : H3 D = some (.lst (o.map fun n => V.int ((n : Nat) : Int))) := s3 _ _ hD2
            refine ⟨D, _, _, _, rfl, rfl, SqL.of hDo, atI_nat (by rw [List.getElem?_map, hn]; rfl), _, rfl, by show 2 ≤ sizeLine; decide, ?_⟩
            have eb : bestL h i j o = [(x : Int), (m0 : Int)] := by
              unfold bestL
              have : (bestC h i j o).find? (fun p => (bestC h i j o).all fun q => decide (p.2 ≤ q.2)) = some (x, m0) := by
                refine find_at _ _ n _ ?_ ?_ ?_
                · unfold bestC
                  rw [List.getElem?_map, hn, ← hc]; rfl
                · rw [List.all_eq_true]
                  intro q hq
                  obtain ⟨y, hy, rfl⟩ := List.mem_map.mp hq
                  have := hmin _ (List.mem_map_of_mem (f := fun (x : Nat) => (x : Int)) (List.mem_map_of_mem (f := fun x => Kqv5.cost h.unit ([i, j, x].map (Kqv5.full h))) hy))
                  rw [decide_eq_true_eq]
                  show m0 ≤ Kqv5.cost h.unit ([i, j, y].map (Kqv5.full h))
                  omega
                · intro n' q hn' hq
                  unfold bestC at hq
                  rw [List.getElem?_map] at hq
                  obtain ⟨y, hy, rfl⟩ := Option.map_eq_some_iff.mp hq
                  have f1 := hfirst n' y hn' hy
                  have f2 := hmin _ (List.mem_map_of_mem (f := fun (x : Nat) => (x : Int)) (List.mem_map_of_mem (f := fun x => Kqv5.cost h.unit ([i, j, x].map (Kqv5.full h))) (List.mem_of_getElem? hy)))
                  rw [Bool.eq_false_iff]
                  intro z
                  have := List.all_eq_true.mp z (x, m0) (by
                    unfold bestC
                    exact List.mem_map.mpr ⟨x, List.mem_of_getElem? hn, by rw [hc]⟩)
                  rw [decide_eq_true_eq] at this
                  have this : Kqv5.cost h.unit ([i, j, y].map (Kqv5.full h)) ≤ m0 := this
                  omega
              rw [this]
            have := k H3 s03
            rw [eb] at this
            exact this
end
end B
namespace B
open PySem PySem.Spec PyProof.Rows L2
open Kqv5 (Hall)
section
variable {P : Program} {w : World} {K : PySem.W.Frag} {mg : Str → Option Value} {base : Heap}
variable {T : Txt K mg} {H H' : Hp} {wk : Addr} {r : Rep} {st : Bool} {h : Hall}
theorem refS2_cases (h : Hall) (i j : Nat) : (refS h [i, j] = -2 ∧ (h.blades.length ≤ i ∨ h.blades.length ≤ j)) ∨ (refS h [i, j] = -22 ∧ ¬ (h.blades.length ≤ i ∨ h.blades.length ≤ j) ∧ i = j) ∨
    (refS h [i, j] = 0 ∧ ¬ (h.blades.length ≤ i ∨ h.blades.length ≤ j) ∧ i ≠ j ∧ i < h.blades.length ∧ j < h.blades.length) := by
  unfold refS
  cases e : [i, j].all fun i => decide (i < h.blades.length) with
  | false =>
    refine .inl ⟨if_neg (by decide), ?_⟩
    simp at e
    by_cases c : i < h.blades.length
    · exact .inr (by have := e c; omega)
    · exact .inl (by omega)
  | true =>
    have hi : i < h.blades.length := by simpa using List.all_eq_true.mp e i (by simp)
    have hj : j < h.blades.length := by simpa using List.all_eq_true.mp e j (by simp)
    right
    rw [if_pos rfl]
    by_cases c : i = j
    · exact .inl ⟨if_neg (by simp [c]), by omega, c⟩
    · exact .inr ⟨if_pos (by simp [c]), by omega, c, hi, hj⟩
theorem third_best {i j : Nat} : (match Kqv5.third h i j with | none => [-33] | some x => [(x : Int), ((Kqv5.cost h.unit ([i, j, x].map (Kqv5.full h)) : Nat) : Int)]) = bestL h i j ((Kqv5.free h (Kqv5.kind h i)).filter fun x => x != i && x != j) := by
  unfold Kqv5.third bestL
  show (match ((bestC h i j ((Kqv5.free h (Kqv5.kind h i)).filter fun x => x != i && x != j)).find? fun p => (bestC h i j ((Kqv5.free h (Kqv5.kind h i)).filter fun x => x != i && x != j)).all fun q => decide (p.2 ≤ q.2)).map (fun p => p.1) with | none => [-33] | some x => [(x : Int), ((Kqv5.cost h.unit ([i, j, x].map (Kqv5.full h)) : Nat) : Int)]) = _
  cases e : (bestC h i j ((Kqv5.free h (Kqv5.kind h i)).filter fun x => x != i && x != j)).find? fun p => (bestC h i j ((Kqv5.free h (Kqv5.kind h i)).filter fun x => x != i && x != j)).all fun q => decide (p.2 ≤ q.2) with
  | none => rfl
  | some p =>
    have := List.mem_of_find?_eq_some e
    obtain ⟨x, _, rfl⟩ := List.mem_map.mp this
    rfl
def sp_reply_third (T : Txt K mg) : Sp := fun vs H Q _ => ∃ (wk p : Addr) (r : Rep) (h : Hall) (i j : Nat), vs = [.ref wk, .ref p] ∧ WA T H wk r true h ∧ M.Wf h ∧ H p = some (.lst (vn [i, j])) ∧ Post T wk r H Q (some h) (.third i j)
theorem ok_reply_third (T : Txt K mg) : FnOk P w K mg base CX0 5 T.f_reply_third T.fd_reply_third ["works", "numbers"] (sp_reply_third T) := by
  refine T.F_reply_third.ok sc_reply_third (fun vs H Q E h => ?_) (fun cdv A outer s H vs Q E hr h => ?_)
  · obtain ⟨wk, p, r, h, i, j, rfl, _⟩ := h
    rfl
  · obtain ⟨wk, p, r, h, i, j, rfl, W, wfh, hp, post⟩ := h
    refine ⟨_, (pss_cons (ps_set (i := 2) sc_reply_third.nd rfl (by first | exact Or.inl rfl | exact Or.inr rfl) (pe_call (ok_refusal_unless_several T) (hr.mono (by decide)) (by rfl) T.mg_refusal_unless_several T.F_refusal_unless_several.kp T.b_refusal_unless_several .nil pass0 (pa_cons (pv 0) (pa_cons (pv 1) pa_nil))))
      (pss_cons (ps_if (pt_cmpR op_lt (pv 2) (pe_int) (nomark _)) (pss_one (ps_ret (pe_lst (pa_cons (pv 2) pa_nil)))) (pss_nil))
      (pss_cons (ps_if (pt_not (pt_val (pe_meth (pv 0) T.cl_Works T.m_Works_of_one_kind (ok_Works_of_one_kind T) (hr.mono (by decide)) T.b_Works_of_one_kind .nil pass0 (pa_cons (pv 1) pa_nil)))) (pss_one (ps_ret (pe_lst (pa_cons (pe_glob (v := V.int (-22)) (by rfl) T.mg_WRONG ⟨_, rfl⟩) pa_nil)))) (pss_nil))
      (pss_one (ps_ret (pe_call (ok_best_beside T) (hr.mono (by decide)) (by rfl) T.mg_best_beside T.F_best_beside.kp T.b_best_beside .nil pass0 (pa_cons (pv 0) (pa_cons (pv 1) pa_nil)))))))), ?_⟩
    refine ⟨_, rfl, _, rfl, wk, p, r, true, h, [i, j], rfl, W, hp, by simp, by simp, fun H1 s1 => ?_⟩
    refine ⟨_, rfl, _, _, rfl, rfl, _, rfl, ?_⟩
    rcases refS2_cases h i j with ⟨e, c1⟩ | ⟨e, c1, c2⟩ | ⟨e, c1, c2, hi, hj⟩
    · rw [e]
      refine iteT ⟨_, rfl, fin_same post ?_ ⟨W, wfh⟩ s1⟩
      unfold Kqv5.step; simp only; rw [if_pos c1]
    · rw [e]
      refine iteT ⟨_, rfl, fin_same post ?_ ⟨W, wfh⟩ s1⟩
      unfold Kqv5.step; simp only; rw [if_neg c1, if_pos (.inl c2)]
    · rw [e]
      refine iteF ?_
      have W1 := W.same s1
      refine ⟨_, rfl, wk, _, _, rfl, W1.ob, rfl, _, rfl, wk, p, r, true, h, i, [j], rfl, W1, s1 _ _ hp, by simp, ?_, fun H2 s2 => ⟨_, rfl, ?_⟩⟩
      · intro x hx; simp at hx; rcases hx with rfl | rfl
        · exact hi
        · exact hj
      have s12 := s1.trans s2
      refine ite_b (fun e2 => fin_same post ?_ ⟨W, wfh⟩ s12) (fun e2 => ?_)
      · have c3 := not_t e2
        have c4 : i = j ∨ Kqv5.kind h i ≠ Kqv5.kind h j := .inr fun z => by
          have q : ([i, j].all fun i_1 => decide (Kqv5.kind h i_1 = Kqv5.kind h i)) = true := by simp [z]
          exact absurd (q.symm.trans c3) (by decide)
        unfold Kqv5.step; simp only
        rw [if_neg c1, if_pos c4]
      have c3 := not_f e2
      have kk : Kqv5.kind h j = Kqv5.kind h i := by simpa using c3
      refine ⟨_, rfl, _, rfl, wk, p, r, true, h, i, j, rfl, W.same s12, wfh, s12 _ _ hp, hi, hj, fun H3 s3 => ?_⟩
      have s13 := s12.trans s3
      have es : Kqv5.step (some h) (.third i j) = (some h, match Kqv5.third h i j with | none => .num (-33) | some x => .some_ x [(Kqv5.cost h.unit ([i, j, x].map (Kqv5.full h)) : Nat)]) := by
        unfold Kqv5.step; simp only
        rw [if_neg c1, if_neg (by rintro (z | z); exact c2 z; exact z kk.symm)]
        cases Kqv5.third h i j <;> rfl
      refine fin_lst post es (WAo.same (s := some h) ⟨W, wfh⟩ s13) Grow.refl (same_keep s13) ?_
      rw [← third_best]
      cases Kqv5.third h i j <;> rfl
/-- the two that stay -/
theorem pair_of {l : List Nat} {a b c i : Nat} (rl : l = [a, b, c]) (n1 : a ≠ b) (n2 : b ≠ c) (n3 : a ≠ c) (hi : i ∈ l) : ∃ x y, l.filter (fun j => j != i) = [x, y] ∧ x ∈ l ∧ y ∈ l ∧ x ≠ i ∧ y ≠ i := by
  subst rl
  simp at hi
  rcases hi with rfl | rfl | rfl
  · exact ⟨b, c, by simp [n1.symm, n3.symm], by simp, by simp, n1.symm, n3.symm⟩
  · exact ⟨a, c, by simp [n1, n2.symm], by simp, by simp, n1, n2.symm⟩
  · exact ⟨a, b, by simp [n2, n3], by simp, by simp, n3, n2⟩
theorem spare_best {l : List Nat} {i x y : Nat} (hp : l.filter (fun j => j != i) = [x, y]) (hk : Kqv5.kind h x = Kqv5.kind h i) (hx : Kqv5.isFree h x = false) (hy : Kqv5.isFree h y = false) :
    (match Kqv5.spare h l i with | none => [-33] | some z => [(z : Int), ((Kqv5.cost h.unit (((l.filter fun j => j != i) ++ [z]).map (Kqv5.full h)) : Nat) : Int)]) = bestL h x y ((Kqv5.free h (Kqv5.kind h x)).filter fun z => z != x && z != y) := by
  have ef : (Kqv5.free h (Kqv5.kind h x)).filter (fun z => z != x && z != y) = Kqv5.free h (Kqv5.kind h i) := by
    rw [hk]
    refine List.filter_eq_self.mpr fun z hz => ?_
    obtain ⟨f1, _⟩ := M.free_mem.mp hz
    have z1 : z ≠ x := fun q => by rw [q, hx] at f1; cases f1
    have z2 : z ≠ y := fun q => by rw [q, hy] at f1; cases f1
    simp [z1, z2]
  rw [ef]
  unfold Kqv5.spare bestL
  rw [hp]
  show (match ((bestC h x y (Kqv5.free h (Kqv5.kind h i))).find? fun p => (bestC h x y (Kqv5.free h (Kqv5.kind h i))).all fun q => decide (p.2 ≤ q.2)).map (fun p => p.1) with | none => [-33] | some z => [(z : Int), ((Kqv5.cost h.unit (([x, y] ++ [z]).map (Kqv5.full h)) : Nat) : Int)]) = _
  cases e : (bestC h x y (Kqv5.free h (Kqv5.kind h i))).find? fun p => (bestC h x y (Kqv5.free h (Kqv5.kind h i))).all fun q => decide (p.2 ≤ q.2) with
  | none => rfl
  | some p =>
    have := List.mem_of_find?_eq_some e
    obtain ⟨z, _, rfl⟩ := List.mem_map.mp this
    rfl
def sp_reply_spare (T : Txt K mg) : Sp := fun vs H Q _ => ∃ (wk p : Addr) (r : Rep) (h : Hall) (n i : Nat), vs = [.ref wk, .ref p] ∧ WA T H wk r true h ∧ M.Wf h ∧ H p = some (.lst (vn [n, i])) ∧ Post T wk r H Q (some h) (.spare n i)
theorem ok_reply_spare (T : Txt K mg) : FnOk P w K mg base CX0 5 T.f_reply_spare T.fd_reply_spare ["works", "numbers"] (sp_reply_spare T) := by
  refine T.F_reply_spare.ok sc_reply_spare (fun vs H Q E h => ?_) (fun cdv A outer s H vs Q E hr h => ?_)
  · obtain ⟨wk, p, r, h, n, i, rfl, _⟩ := h
    rfl
  · obtain ⟨wk, p, r, h, n, i, rfl, W, wfh, hp, post⟩ := h
    refine ⟨_, (pss_cons (ps_set (i := 2) sc_reply_spare.nd rfl (by first | exact Or.inl rfl | exact Or.inr rfl) (pe_ix ix_list (pv 1) (pe_int) (fun _ _ => rfl)))
      (pss_cons (ps_set (i := 3) sc_reply_spare.nd rfl (by first | exact Or.inl rfl | exact Or.inr rfl) (pe_ix ix_list (pv 1) (pe_int) (fun _ _ => rfl)))
      (pss_cons (ps_if (pt_cmp (pc_dnotin (hu_of hr) (pv 2) (pe_fld (pv 0) rfl))) (pss_one (ps_ret (pe_lst (pa_cons (pe_glob (v := V.int (-2)) (by rfl) T.mg_NO_SUCH ⟨_, rfl⟩) pa_nil)))) (pss_nil))
      (pss_cons (ps_if (pt_cmpR op_notIn_seq (pv 3) (pe_dget (hu_of hr) (pe_fld (pv 0) rfl) (pv 2) (fun _ _ => rfl)) (by with_unfolding_all rfl)) (pss_one (ps_ret (pe_lst (pa_cons (pe_glob (v := V.int (-22)) (by rfl) T.mg_WRONG ⟨_, rfl⟩) pa_nil)))) (pss_nil))
      (pss_one (ps_ret (pe_call (ok_best_beside T) (hr.mono (by decide)) (by rfl) T.mg_best_beside T.F_best_beside.kp T.b_best_beside .nil pass0 (pa_cons (pv 0) (pa_cons (pe_lc (own := [("j", 4)]) (g := (gName 4)) (tt := (tTest (tOp rNe (tVar 4) (tVar 3)))) (te := (tVar 4)) rfl sc_reply_spare.nd (pi_list (pe_dget (hu_of hr) (pe_fld (pv 0) rfl) (pv 2) (fun _ _ => rfl))) (blkOk_by (show blkC ["works", "numbers", "s", "i", "j"] (defScope s_reply_spare) _ [("j", 4)] = true by decide +kernel)) (fun _ _ _ _ _ => by exact (pg_name (i := 4) sc_reply_spare.nd rfl (by first | exact Or.inl rfl | exact Or.inr rfl))) (fun _ _ _ _ _ => by exact pts_one (pt_cmpR op_ne (pv 4) (pv 3) (nomark _))) (fun _ _ _ _ _ => by exact pv 4)) pa_nil))))))))), ?_⟩
    have hl : SqL K H p (vn [n, i]) := SqL.of hp
    refine ⟨_, rfl, p, _, _, _, rfl, rfl, hl, atI_nat (j := 0) (vn_at rfl), ?_⟩
    refine ⟨_, rfl, p, _, _, _, rfl, rfl, hl, atI_nat (j := 1) (vn_at rfl), ?_⟩
    refine ⟨_, rfl, _, rfl, wk, _, _, _, _, rfl, W.ob, T.cl_Works, T.na_Works_trios, rfl, r.dt, _, rfl, DGet.k (k := Sum.inl ((n : Nat) : Int)) W.dct, _, rfl, ?_⟩
    obtain ⟨e0, g0⟩ | ⟨l, t, e0, hl0, g0, hn, hlt⟩ := W.look n
    · rw [e0]
      refine iteT (fin_same post ?_ ⟨W, wfh⟩ (Same.refl _))
      unfold Kqv5.step; simp only [g0]
    · rw [e0]
      refine iteF ?_
      refine ⟨_, rfl, _, rfl, wk, _, _, _, _, rfl, W.ob, T.cl_Works, T.na_Works_trios, rfl, _, rfl, r.dt, _, rfl, .inl ⟨_, Sum.inl ((n : Nat) : Int), .inl W.dct, rfl, e0.symm⟩, l, _, rfl, .inl (SqL.of hlt), rfl, vn_flat _, _, rfl, ?_⟩
      refine ite_b (fun e2 => ?_) (fun e2 => ?_)
      · have c : t.contains i = false := by
          have e2 : (!inV (V.int ((i : Nat) : Int)) (vn t)) = true := e2
          rw [inV_vn] at e2
          exact not_t e2
        refine fin_same post ?_ ⟨W, wfh⟩ (Same.refl _)
        unfold Kqv5.step; simp only [g0]; rw [if_pos c]
      have c : t.contains i = true := by
        have e2 : (!inV (V.int ((i : Nat) : Int)) (vn t)) = false := e2
        rw [inV_vn] at e2
        exact not_f e2
      have ci : i ∈ t := List.contains_iff_mem.mp c
      obtain ⟨⟨a, b, d, rt, n1, n2, n3, k1, k2⟩, mm⟩ := wfh.st n t hn
      obtain ⟨x, y, hxy, mx, my, nx, ny⟩ := pair_of rt n1 n2 n3 ci
      have kx : ∀ z ∈ t, Kqv5.kind h z = Kqv5.kind h a := fun z hz => by
        rw [rt] at hz
        simp at hz
        rcases hz with rfl | rfl | rfl
        · rfl
        · exact k1.symm
        · exact k2.symm.trans k1.symm
      have notfree : ∀ z ∈ t, Kqv5.isFree h z = false ∧ z < h.blades.length := fun z hz => by
        obtain ⟨b', q, s'⟩ := mm z hz
        refine ⟨?_, (List.getElem?_eq_some_iff.mp q).1⟩
        rw [M.free_of q, s']
        rfl
      have hlt' := hlt
      rw [vn_map] at hlt'
      refine ⟨_, rfl, ?_⟩
      refine ⟨_, rfl, wk, _, _, _, _, rfl, W.ob, T.cl_Works, T.na_Works_trios, rfl, _, rfl, r.dt, _, rfl, .inl ⟨_, Sum.inl ((n : Nat) : Int), .inl W.dct, rfl, e0.symm⟩, l, rfl, ⟨_, SqL.of hlt'⟩, fun D hD => lc_mapL t (fun n => V.int ((n : Nat) : Int)) (fun j => j != i) (fun n => V.int ((n : Nat) : Int)) hD (SqL.of hlt') (by rw [rt]; simp) (fun m z H2 Tr Fa hz hs h1 h2 => ?_) (fun H2 s2 hD2 => ?_)⟩
      · refine ⟨rfl, _, rfl, _, rfl, rfl, _, rfl, ?_⟩
        have e : (!decide (V.int ((z : Nat) : Int) = V.int ((i : Nat) : Int))) = (z != i) := by
          by_cases c : z = i
          · simp [c]
          · have : ¬ V.int ((z : Nat) : Int) = V.int ((i : Nat) : Int) := fun q => c (by injection q with q; omega)
            simp [c, this]
        refine ite_b (fun q => ?_) (fun q => ?_)
        · exact ⟨_, rfl, h1 (e.symm.trans q) H2 (Same.refl _)⟩
        · exact h2 (e.symm.trans q) H2 (Same.refl _)
      · rw [hxy] at hD2
        refine ⟨wk, D, r, true, h, x, y, rfl, W.same s2, wfh, hD2, (notfree x mx).2, (notfree y my).2, fun H3 s3 => ?_⟩
        have s13 := s2.trans s3
        have es : Kqv5.step (some h) (.spare n i) = (some h, match Kqv5.spare h t i with | none => .num (-33) | some x => .some_ x [(Kqv5.cost h.unit (((t.filter fun j => j != i) ++ [x]).map (Kqv5.full h)) : Nat)]) := by
          unfold Kqv5.step; simp only [g0]
          rw [if_neg (by rw [c]; decide)]
          cases Kqv5.spare h t i <;> rfl
        refine fin_lst post es (WAo.same (s := some h) ⟨W, wfh⟩ s13) Grow.refl (same_keep s13) ?_
        rw [← spare_best hxy ((kx x mx).trans (kx i ci).symm) (notfree x mx).1 (notfree y my).1]
        cases Kqv5.spare h t i <;> rfl
end
end B
namespace B
open PySem PySem.Spec PyProof.Rows L2
open Kqv5 (Hall)
section
variable {P : Program} {w : World} {K : PySem.W.Frag} {mg : Str → Option Value} {base : Heap}
variable {T : Txt K mg} {H H' : Hp} {wk : Addr} {r : Rep} {st : Bool} {h : Hall}
def sp_shortfall (T : Txt K mg) : Sp := fun vs H Q _ => ∃ (p : Addr) (ns : List Nat), vs = [.ref p] ∧ H p = some (.lst (vn ns)) ∧ ns ≠ [] ∧ ns.length ≤ 100 ∧ ∀ H', Same H H' → Q (.int ((Kqv5.sum (ns.map fun x => Kqv5.greatest ns - x) : Nat) : Int)) H'
theorem ok_shortfall (T : Txt K mg) : FnOk P w K mg base CX0 1 T.f_shortfall T.fd_shortfall ["pulls"] (sp_shortfall T) := by
  refine T.F_shortfall.ok sc_shortfall (fun vs H Q E h => ?_) (fun cdv A outer s H vs Q E hr h => ?_)
  · obtain ⟨p, ns, rfl, _⟩ := h
    rfl
  · obtain ⟨p, ns, rfl, hp, hne, hlen, k⟩ := h
    refine ⟨_, (pss_cons (ps_set (i := 1) sc_shortfall.nd rfl (by first | exact Or.inl rfl | exact Or.inr rfl) (pe_callB (cr_max rfl) (by rfl) T.no_max boot_maxB (pa_cons (pv 0) pa_nil)))
      (pss_one (ps_ret (pe_callB (cr_sum rfl) (by rfl) T.no_sum boot_sumB (pa_cons (pe_lc (own := [("pull", 2)]) (g := (gName 2)) (tt := tYes) (te := (tOp (rI0 fun i j => V.int (i - j)) (tVar 1) (tVar 2))) rfl sc_shortfall.nd (pi_list (pv 0)) (blkOk_by (show blkC ["pulls", "greatest", "pull"] (defScope s_shortfall) _ [("pull", 2)] = true by decide +kernel)) (fun _ _ _ _ _ => by exact (pg_name (i := 2) sc_shortfall.nd rfl (by first | exact Or.inl rfl | exact Or.inr rfl))) (fun _ _ _ _ _ => by exact pts_nil) (fun _ _ _ _ _ => by exact pe_op op_sub (pv 1) (pv 2))) pa_nil))))), ?_⟩
    have hl : SqL K H p (vn ns) := SqL.of hp
    refine ⟨_, rfl, p, Kqv5.nats ns, rfl, hl, ?_, fun m hm hmax => ?_⟩
    · unfold Kqv5.nats; rw [List.length_map]; exact List.length_pos_iff.mpr hne
    obtain ⟨M0, hM0, rfl⟩ := List.mem_map.mp hm
    have hg : Kqv5.greatest ns = M0 := M.greatest_eq hM0 fun x hx => by
      have := hmax x (List.mem_map_of_mem (f := fun (x : Nat) => (x : Int)) hx)
      omega
    rw [vn_map] at hl
    refine ⟨_, rfl, p, rfl, ⟨_, hl⟩, fun D hD => lc_mapL ns (fun n => V.int ((n : Nat) : Int)) (fun _ => true) (fun n => V.int ((M0 - n : Nat) : Int)) hD hl (by omega) (fun i z H2 Tr Fa hz hs h1 h2 => ?_) (fun H2 s2 hD2 => ?_)⟩
    · refine ⟨rfl, iteT (B := Fa H2) ?_⟩
      refine ⟨_, rfl, _, rfl, _, _, rfl, rfl, ?_⟩
      have hz2 : z ≤ M0 := by rw [← hg]; exact M.greatest_ge (List.mem_of_getElem? hz)
      show Tr (V.int ((M0 : Int) - (z : Int))) H2
      rw [← Int.ofNat_sub hz2]
      exact h1 rfl H2 (Same.refl _)
    · rw [show ns.filter (fun _ => true) = ns from by simp] at hD2
      have e : (ns.map fun n => V.int ((M0 - n : Nat) : Int)) = vn (ns.map fun n => M0 - n) := by rw [vn_map, List.map_map]; rfl
      rw [e] at hD2
      refine ⟨D, _, rfl, SqL.of hD2, ?_⟩
      rw [nats_sum]
      have := k H2 s2
      rw [hg] at this
      exact this
def sp_Works_needs_nothing (T : Txt K mg) : Sp := fun vs H Q _ => ∃ (wk p : Addr) (r : Rep) (st : Bool) (h : Hall) (l : List Nat), vs = [.ref wk, .ref p] ∧ WA T H wk r st h ∧ M.Wf h ∧ H p = some (.lst (vn l)) ∧ l ≠ [] ∧ l.length ≤ 100 ∧ (∀ i ∈ l, i < h.blades.length) ∧
  ∀ H', Same H H' → Q (.bl (decide (Kqv5.cost h.unit (l.map (Kqv5.full h)) = 0))) H'
theorem ok_Works_needs_nothing (T : Txt K mg) : FnOk P w K mg base CX0 4 T.f_Works_needs_nothing T.fd_Works_needs_nothing ["self", "numbers"] (sp_Works_needs_nothing T) := by
  refine T.F_Works_needs_nothing.ok sc_Works_needs_nothing (fun vs H Q E h => ?_) (fun cdv A outer s H vs Q E hr h => ?_)
  · obtain ⟨wk, p, r, st, h, l, rfl, _⟩ := h
    rfl
  · obtain ⟨wk, p, r, st, h, l, rfl, W, wfh, hp, hne, hlen, hv, k⟩ := h
    refine ⟨_, (pss_one (ps_ret (pe_cmpR op_eq (pe_callB (cr_sum rfl) (by rfl) T.no_sum boot_sumB (pa_cons (pe_meth (pv 0) T.cl_Works T.m_Works_units_for (ok_Works_units_for T) (hr.mono (by decide)) T.b_Works_units_for .nil pass0 (pa_cons (pv 1) pa_nil)) pa_nil)) (pe_int) (nomark _)))), ?_⟩
    refine ⟨_, rfl, wk, _, _, rfl, W.ob, rfl, _, rfl, wk, p, r, st, h, l, rfl, W, wfh, hp, hne, hlen, hv, fun H1 q s1 hq hq1 => ?_⟩
    refine ⟨q, _, rfl, SqL.of hq1, ?_⟩
    rw [nats_sum]
    refine ⟨rfl, ?_⟩
    have e : decide (V.int ((Kqv5.sum (Kqv5.needs h.unit (l.map (Kqv5.full h))) : Nat) : Int) = V.int 0) = decide (Kqv5.cost h.unit (l.map (Kqv5.full h)) = 0) := by
      rw [Bool.eq_iff_iff, decide_eq_true_eq, decide_eq_true_eq]
      constructor
      · intro q; injection q with q; exact Int.ofNat_inj.mp q
      · intro q; show V.int ((Kqv5.cost h.unit (l.map (Kqv5.full h)) : Nat) : Int) = _; rw [q]; rfl
    rw [e]
    exact k H1 s1
def sp_reply_add (T : Txt K mg) : Sp := fun vs H Q _ => ∃ (wk p : Addr) (r : Rep) (h : Hall) (i m : Nat), vs = [.ref wk, .ref p] ∧ WA T H wk r true h ∧ M.Wf h ∧ H p = some (.lst (vn [i, m])) ∧ Post T wk r H Q (some h) (.add i m)
theorem ok_reply_add (T : Txt K mg) : FnOk P w K mg base CX0 2 T.f_reply_add T.fd_reply_add ["works", "numbers"] (sp_reply_add T) := by
  refine T.F_reply_add.ok sc_reply_add (fun vs H Q E h => ?_) (fun cdv A outer s H vs Q E hr h => ?_)
  · obtain ⟨wk, p, r, h, i, m, rfl, _⟩ := h
    rfl
  · obtain ⟨wk, p, r, h, i, m, rfl, W, wfh, hp, k⟩ := h
    refine ⟨_, (pss_cons (ps_set (i := 2) sc_reply_add.nd rfl (by first | exact Or.inl rfl | exact Or.inr rfl) (pe_ix ix_list (pv 1) (pe_int) (fun _ _ => rfl)))
      (pss_cons (ps_set (i := 3) sc_reply_add.nd rfl (by first | exact Or.inl rfl | exact Or.inr rfl) (pe_ix ix_list (pv 1) (pe_int) (fun _ _ => rfl)))
      (pss_cons (ps_if (pt_not (pt_val (pe_meth (pv 0) T.cl_Works T.m_Works_has_blades (ok_Works_has_blades T) (hr.mono (by decide)) T.b_Works_has_blades .nil pass0 (pa_cons (pe_lst (pa_cons (pv 2) pa_nil)) pa_nil)))) (pss_one (ps_ret (pe_lst (pa_cons (pe_glob (v := V.int (-2)) (by rfl) T.mg_NO_SUCH ⟨_, rfl⟩) pa_nil)))) (pss_nil))
      (pss_cons (ps_set (i := 4) sc_reply_add.nd rfl (by first | exact Or.inl rfl | exact Or.inr rfl) (pe_ix ix_list (pe_fld (pv 0) rfl) (pv 2) (fun _ _ => rfl)))
      (pss_cons (ps_if (pt_val (pe_fld (pv 4) rfl)) (pss_one (ps_ret (pe_lst (pa_cons (pe_glob (v := V.int (-16)) (by rfl) T.mg_NOT_FREE ⟨_, rfl⟩) pa_nil)))) (pss_nil))
      (pss_cons (ps_if (PW.pt (pw_or (pt_cmpR op_eq (pv 3) (pe_int) (nomark _)) (pw_or1 (pt_cmpR op_gt (pe_op op_add (pe_fld (pv 4) rfl) (pv 3)) (pe_fld (pv 0) rfl) (nomark _))))) (pss_one (ps_ret (pe_lst (pa_cons (pe_glob (v := V.int (-22)) (by rfl) T.mg_WRONG ⟨_, rfl⟩) pa_nil)))) (pss_nil))
      (pss_cons (ps_fldaug (pv 4) (pv 3) in_add)
      (pss_one (ps_ret (pe_lst (pa_cons (pe_meth0 (pv 4) T.cl_Blade T.m_Blade_pull (ok_Blade_pull T) (hr.mono (by decide)) T.b_Blade_pull .nil pass0) pa_nil))))))))))), ?_⟩
    have hl : SqL K H p (vn [i, m]) := SqL.of hp
    refine ⟨_, rfl, p, _, _, _, rfl, rfl, hl, atI_nat (j := 0) (vn_at rfl), ?_⟩
    refine ⟨_, rfl, p, _, _, _, rfl, rfl, hl, atI_nat (j := 1) (vn_at rfl), ?_⟩
    refine ⟨_, rfl, wk, _, _, rfl, W.ob, rfl, _, rfl, by show 1 ≤ sizeLine; decide, fun p1 hp1 => ?_⟩
    have s1 : Same H (upd H p1 (.lst [V.int (i : Nat)])) := fun b u e => by rw [upd_ne (ne_of_none e hp1)]; exact e
    have W1 := W.same s1
    refine ⟨wk, p1, r, true, h, [i], rfl, W1, by rw [upd_same]; rfl, by simp, _, rfl, ?_⟩
    refine ite_b (fun e => fin_same k ?_ ⟨W, wfh⟩ s1) (fun e => ?_)
    · have c : h.blades[i]? = none := List.getElem?_eq_none_iff.mpr (by simp at e; omega)
      unfold Kqv5.step; simp only [c]
    have c : i < h.blades.length := by simp at e; omega
    obtain ⟨a, b, ha, hb, Bl⟩ := W1.get c
    obtain ⟨dx, hdx⟩ := id Bl
    refine rd_blade W1 rfl ha (fun Q' q => ⟨_, rfl, q⟩) ?_
    refine ⟨_, rfl, a, _, dx, _, _, rfl, hdx, T.cl_Blade, T.na_Blade_gone, bf_gone b, _, rfl, ?_⟩
    refine ite_b (fun e2 => fin_same k ?_ ⟨W, wfh⟩ s1) (fun e2 => ?_)
    · unfold Kqv5.step; simp only [hb]; rw [if_pos e2]
    have ng : ¬ b.gone = true := by rw [e2]; decide
    refine ⟨_, rfl, rfl, _, rfl, ?_⟩
    refine ite_b (fun e3 => iteT (fin_same k ?_ ⟨W, wfh⟩ s1)) (fun e3 => ?_)
    · have z := of_decide_eq_true e3
      injection z with z
      unfold Kqv5.step; simp only [hb]; rw [if_neg ng, if_pos (.inl (by omega))]
    have n0 : ¬ m = 0 := fun z => of_decide_eq_false e3 (by rw [z]; rfl)
    refine ⟨_, rfl, a, _, dx, _, _, rfl, hdx, T.cl_Blade, T.na_Blade_added, bf_added b, _, rfl, _, _, rfl, rfl, rd_most W1 rfl ⟨_, _, rfl, rfl, _, rfl, ?_⟩⟩
    refine ite_b (fun e4 => fin_same k ?_ ⟨W, wfh⟩ s1) (fun e4 => ?_)
    · have z := of_decide_eq_true e4
      unfold Kqv5.step; simp only [hb]; rw [if_neg ng, if_pos (.inr (by omega))]
    have n1 := of_decide_eq_false e4
    refine ⟨_, rfl, a, _, dx, _, _, rfl, hdx, T.cl_Blade, T.na_Blade_added, bf_added b, _, rfl, _, _, rfl, rfl, dx, _, hdx, by show 5 < 1000; decide, ?_⟩
    have B2 : BladeAt T (upd (upd H p1 (.lst [V.int (i : Nat)])) a (.ins T.C_Blade dx (putF "added" (V.int (((b.added : Nat) : Int) + ((m : Nat) : Int))) (bf b)))) a { b with added := b.added + m } := ⟨dx, by rw [upd_same]; rfl⟩
    have kp2 : ∀ c o, (upd H p1 (.lst [V.int (i : Nat)])) c = some o → c ≠ a → (upd (upd H p1 (.lst [V.int (i : Nat)])) a (.ins T.C_Blade dx (putF "added" (V.int (((b.added : Nat) : Int) + ((m : Nat) : Int))) (bf b)))) c = some o := fun c o e n => by rw [upd_ne n]; exact e
    have W2 := W1.blade (b' := { b with added := b.added + m }) ha hb B2 kp2
    refine ⟨_, rfl, a, dx, _, rfl, upd_same, rfl, a, { b with added := b.added + m }, rfl, B2, ?_⟩
    have es : Kqv5.step (some h) (.add i m) = (some { h with blades := h.blades.set i { b with added := b.added + m } }, .num (b.moment + (b.added + m) : Nat)) := by
      unfold Kqv5.step; simp only [hb]; rw [if_neg ng, if_neg (by omega), Nat.add_assoc]
    have wb := wfh.bl i b hb
    have wm := wfh.most
    refine fin_num k es ⟨W2, wfh.one hb rfl rfl ⟨wb.kind, wb.mom, ?_, wb.gone⟩⟩ Grow.refl ((same_keep s1).trans Grow.refl (W1.blade_keep ha W2 kp2))
    show b.moment + (b.added + m) ≤ 110000
    have := wb.mom
    omega
def sp_reply_look (T : Txt K mg) : Sp := fun vs H Q _ => ∃ (wk p : Addr) (r : Rep) (h : Hall) (i : Nat), vs = [.ref wk, .ref p] ∧ WA T H wk r true h ∧ M.Wf h ∧ H p = some (.lst (vn [i])) ∧ Post T wk r H Q (some h) (.look i)
theorem ok_reply_look (T : Txt K mg) : FnOk P w K mg base CX0 2 T.f_reply_look T.fd_reply_look ["works", "numbers"] (sp_reply_look T) := by
  refine T.F_reply_look.ok sc_reply_look (fun vs H Q E h => ?_) (fun cdv A outer s H vs Q E hr h => ?_)
  · obtain ⟨wk, p, r, h, i, rfl, _⟩ := h
    rfl
  · obtain ⟨wk, p, r, h, i, rfl, W, wfh, hp, k⟩ := h
    refine ⟨_, (pss_cons (ps_set (i := 2) sc_reply_look.nd rfl (by first | exact Or.inl rfl | exact Or.inr rfl) (pe_ix ix_list (pv 1) (pe_int) (fun _ _ => rfl)))
      (pss_cons (ps_if (pt_not (pt_val (pe_meth (pv 0) T.cl_Works T.m_Works_has_blades (ok_Works_has_blades T) (hr.mono (by decide)) T.b_Works_has_blades .nil pass0 (pa_cons (pe_lst (pa_cons (pv 2) pa_nil)) pa_nil)))) (pss_one (ps_ret (pe_lst (pa_cons (pe_glob (v := V.int (-2)) (by rfl) T.mg_NO_SUCH ⟨_, rfl⟩) pa_nil)))) (pss_nil))
      (pss_cons (ps_set (i := 3) sc_reply_look.nd rfl (by first | exact Or.inl rfl | exact Or.inr rfl) (pe_ix ix_list (pe_fld (pv 0) rfl) (pv 2) (fun _ _ => rfl)))
      (pss_one (ps_ret (pe_lst (pa_cons (pe_fld (pv 3) rfl) (pa_cons (pe_fld (pv 3) rfl) (pa_cons (pe_fld (pv 3) rfl) (pa_cons (pe_fld (pv 3) rfl) (pa_cons (pe_ifExp (pt_val (pe_fld (pv 3) rfl)) (pe_int) (pe_int)) pa_nil))))))))))), ?_⟩
    have hl : SqL K H p (vn [i]) := SqL.of hp
    refine ⟨_, rfl, p, _, _, _, rfl, rfl, hl, atI_nat (j := 0) (vn_at rfl), ?_⟩
    refine ⟨_, rfl, wk, _, _, rfl, W.ob, rfl, _, rfl, by show 1 ≤ sizeLine; decide, fun p1 hp1 => ?_⟩
    have s1 : Same H (upd H p1 (.lst [V.int (i : Nat)])) := fun b u e => by rw [upd_ne (ne_of_none e hp1)]; exact e
    have W1 := W.same s1
    refine ⟨wk, p1, r, true, h, [i], rfl, W1, by rw [upd_same]; rfl, by simp, _, rfl, ?_⟩
    refine ite_b (fun e => fin_same k ?_ ⟨W, wfh⟩ s1) (fun e => ?_)
    · have c : h.blades[i]? = none := List.getElem?_eq_none_iff.mpr (by simp at e; omega)
      unfold Kqv5.step; simp only [c]
    have c : i < h.blades.length := by simp at e; omega
    obtain ⟨a, b, ha, hb, Bl⟩ := W1.get c
    obtain ⟨dx, hdx⟩ := id Bl
    refine rd_blade W1 rfl ha (fun Q' q => ⟨_, rfl, q⟩) ?_
    refine ⟨_, rfl, a, _, dx, _, _, rfl, hdx, T.cl_Blade, T.na_Blade_moment, bf_moment b, _, rfl, a, _, dx, _, _, rfl, hdx, T.cl_Blade, T.na_Blade_kind, bf_kind b, _, rfl, a, _, dx, _, _, rfl, hdx, T.cl_Blade, T.na_Blade_added, bf_added b, _, rfl, a, _, dx, _, _, rfl, hdx, T.cl_Blade, T.na_Blade_set_and_one, bf_set b, _, rfl, a, _, dx, _, _, rfl, hdx, T.cl_Blade, T.na_Blade_gone, bf_gone b, _, rfl, ?_⟩
    have es : Kqv5.step (some h) (.look i) = (some h, .some_ b.moment [b.kind, b.added, b.set, if b.gone then 1 else 0]) := by
      unfold Kqv5.step; simp only [hb]
    refine ite_b (fun e2 => ⟨by show 5 ≤ sizeLine; decide, ?_⟩) (fun e2 => ⟨by show 5 ≤ sizeLine; decide, ?_⟩)
    · rw [e2] at es
      exact fin_lst k es (WAo.same (s := some h) ⟨W, wfh⟩ s1) Grow.refl (same_keep s1) rfl
    · rw [e2] at es
      exact fin_lst k es (WAo.same (s := some h) ⟨W, wfh⟩ s1) Grow.refl (same_keep s1) rfl
def sp_reply_free (T : Txt K mg) : Sp := fun vs H Q _ => ∃ (wk p : Addr) (r : Rep) (h : Hall) (n : Nat), vs = [.ref wk, .ref p] ∧ WA T H wk r true h ∧ M.Wf h ∧ H p = some (.lst (vn [n])) ∧ Post T wk r H Q (some h) (.free n)
theorem ok_reply_free (T : Txt K mg) : FnOk P w K mg base CX0 3 T.f_reply_free T.fd_reply_free ["works", "numbers"] (sp_reply_free T) := by
  refine T.F_reply_free.ok sc_reply_free (fun vs H Q E h => ?_) (fun cdv A outer s H vs Q E hr h => ?_)
  · obtain ⟨wk, p, r, h, n, rfl, _⟩ := h
    rfl
  · obtain ⟨wk, p, r, h, n, rfl, W, wfh, hp, post⟩ := h
    refine ⟨_, (pss_cons (ps_set (i := 2) sc_reply_free.nd rfl (by first | exact Or.inl rfl | exact Or.inr rfl) (pe_ix ix_list (pv 1) (pe_int) (fun _ _ => rfl)))
      (pss_cons (ps_if (pt_cmpR op_gt (pv 2) (pe_glob (v := V.int 3) (by rfl) T.mg_GREATEST_KIND ⟨_, rfl⟩) (nomark _)) (pss_one (ps_ret (pe_lst (pa_cons (pe_glob (v := V.int (-22)) (by rfl) T.mg_WRONG ⟨_, rfl⟩) pa_nil)))) (pss_nil))
      (pss_cons (ps_set (i := 3) sc_reply_free.nd rfl (by first | exact Or.inl rfl | exact Or.inr rfl) (pe_meth (pv 0) T.cl_Works T.m_Works_free_of_kind (ok_Works_free_of_kind T) (hr.mono (by decide)) T.b_Works_free_of_kind .nil pass0 (pa_cons (pv 2) pa_nil)))
      (pss_one (ps_ret (pe_op op_cat (pe_lst (pa_cons (pe_callB call_len_seq (by rfl) T.no_len PySem.boot_len (pa_cons (pv 3) pa_nil)) pa_nil)) (pv 3))))))), ?_⟩
    have hl : SqL K H p (vn [n]) := SqL.of hp
    refine ⟨_, rfl, p, _, _, _, rfl, rfl, hl, atI_nat (j := 0) (vn_at rfl), ?_⟩
    refine ⟨_, rfl, _, _, rfl, rfl, _, rfl, ?_⟩
    refine ite_b (fun e => fin_same post ?_ ⟨W, wfh⟩ (Same.refl _)) (fun e => ?_)
    · have := of_decide_eq_true e
      unfold Kqv5.step; simp only; rw [if_pos (by omega)]
    have c1 := of_decide_eq_false e
    refine ⟨_, rfl, wk, _, _, rfl, W.ob, rfl, _, rfl, wk, r, true, h, n, rfl, W, wfh.len, fun H1 f s1 hf hf1 => ?_⟩
    refine ⟨_, rfl, f, _, rfl, .inl (SqL.of hf1), by show 1 ≤ sizeLine; decide, fun p2 hp2 => ?_⟩
    have s3 : Same H1 (upd H1 p2 (.lst [V.int ((vn (Kqv5.free h n)).length : Nat)])) := fun b u e => by rw [upd_ne (ne_of_none e hp2)]; exact e
    have fl := M.free_len h n
    have bl := wfh.len
    refine ⟨_, rfl, p2, f, _, _, rfl, rfl, upd_same, s3 _ _ hf1, ?_, ?_⟩
    · show 1 + _ ≤ _
      rw [vn_len]
      exact Nat.le_trans (show _ ≤ 21 by omega) (by decide)
    · have s4 := s1.trans s3
      refine fin_lst post (a := Kqv5.row (Kqv5.free h n)) ?_ (WAo.same (s := some h) ⟨W, wfh⟩ s4) Grow.refl (same_keep s4) ?_
      · unfold Kqv5.step; simp only; rw [if_neg (by omega)]
      · rw [vn_len]; rfl
def sp_reply_balanced (T : Txt K mg) : Sp := fun vs H Q _ => ∃ (wk p : Addr) (r : Rep) (h : Hall) (n : Nat), vs = [.ref wk, .ref p] ∧ WA T H wk r true h ∧ M.Wf h ∧ H p = some (.lst (vn [n])) ∧ Post T wk r H Q (some h) (.balanced n)
theorem ok_reply_balanced (T : Txt K mg) : FnOk P w K mg base CX0 5 T.f_reply_balanced T.fd_reply_balanced ["works", "numbers"] (sp_reply_balanced T) := by
  refine T.F_reply_balanced.ok sc_reply_balanced (fun vs H Q E h => ?_) (fun cdv A outer s H vs Q E hr h => ?_)
  · obtain ⟨wk, p, r, h, n, rfl, _⟩ := h
    rfl
  · obtain ⟨wk, p, r, h, n, rfl, W, wfh, hp, post⟩ := h
    refine ⟨_, (pss_cons (ps_set (i := 2) sc_reply_balanced.nd rfl (by first | exact Or.inl rfl | exact Or.inr rfl) (pe_ix ix_list (pv 1) (pe_int) (fun _ _ => rfl)))
      (pss_cons (ps_if (pt_cmp (pc_dnotin (hu_of hr) (pv 2) (pe_fld (pv 0) rfl))) (pss_one (ps_ret (pe_lst (pa_cons (pe_glob (v := V.int (-2)) (by rfl) T.mg_NO_SUCH ⟨_, rfl⟩) pa_nil)))) (pss_nil))
      (pss_cons (ps_set (i := 3) sc_reply_balanced.nd rfl (by first | exact Or.inl rfl | exact Or.inr rfl) (pe_dget (hu_of hr) (pe_fld (pv 0) rfl) (pv 2) (fun _ _ => rfl)))
      (pss_one (ps_ret (pe_lst (pa_cons (pe_ifExp (pt_val (pe_meth (pv 0) T.cl_Works T.m_Works_needs_nothing (ok_Works_needs_nothing T) (hr.mono (by decide)) T.b_Works_needs_nothing .nil pass0 (pa_cons (pv 3) pa_nil))) (pe_int) (pe_int)) (pa_cons (pe_call (ok_how_far_off T) (hr.mono (by decide)) (by rfl) T.mg_how_far_off T.F_how_far_off.kp T.b_how_far_off .nil pass0 (pa_cons (pe_meth (pv 0) T.cl_Works T.m_Works_pulls (ok_Works_pulls T) (hr.mono (by decide)) T.b_Works_pulls .nil pass0 (pa_cons (pv 3) pa_nil)) pa_nil)) pa_nil)))))))), ?_⟩
    have hl : SqL K H p (vn [n]) := SqL.of hp
    refine ⟨_, rfl, p, _, _, _, rfl, rfl, hl, atI_nat (j := 0) (vn_at rfl), ?_⟩
    refine ⟨_, rfl, _, rfl, wk, _, _, _, _, rfl, W.ob, T.cl_Works, T.na_Works_trios, rfl, r.dt, _, rfl, DGet.k (k := Sum.inl ((n : Nat) : Int)) W.dct, _, rfl, ?_⟩
    obtain ⟨e0, g0⟩ | ⟨l, t, e0, hl0, g0, hn, hlt⟩ := W.look n
    · rw [e0]
      refine iteT (fin_same post ?_ ⟨W, wfh⟩ (Same.refl _))
      unfold Kqv5.step; simp only [g0]
    · rw [e0]
      refine iteF ?_
      refine ⟨_, rfl, wk, _, _, _, _, rfl, W.ob, T.cl_Works, T.na_Works_trios, rfl, _, rfl, r.dt, _, rfl, .inl ⟨_, Sum.inl ((n : Nat) : Int), .inl W.dct, rfl, e0.symm⟩, ?_⟩
      obtain ⟨⟨i1, i2, i3, rt, _⟩, mm⟩ := wfh.st n t hn
      have hv : ∀ i ∈ t, i < h.blades.length := fun i hi => by
        obtain ⟨b, q, _⟩ := mm i hi
        exact (List.getElem?_eq_some_iff.mp q).1
      refine ⟨_, rfl, wk, _, _, rfl, W.ob, rfl, _, rfl, wk, l, r, true, h, t, rfl, W, wfh, hlt, by rw [rt]; simp, by rw [rt]; simp, hv, fun H1 s1 => ⟨_, rfl, ?_⟩⟩
      have W1 := W.same s1
      have es : Kqv5.step (some h) (.balanced n) = (some h, .some_ (if Kqv5.cost h.unit (t.map (Kqv5.full h)) = 0 then 1 else 0) [Kqv5.off ((t.map (Kqv5.full h)).getD 0 0 : Nat) ((t.map (Kqv5.full h)).getD 1 0 : Nat) ((t.map (Kqv5.full h)).getD 2 0 : Nat)]) := by
        unfold Kqv5.step; simp only [g0]
      have fin : ∀ c : Int, (if Kqv5.cost h.unit (t.map (Kqv5.full h)) = 0 then (1 : Int) else 0) = c → tCons (tCall (sp_how_far_off T) [] E0 (tCons (tMeth T.C_Works "pulls" (sp_Works_pulls T) [] E0 (tVar 0) (tCons (tVar 3) tNil)) tNil)) tNil [some (.ref wk), some (.ref p), some (.int (n : Nat)), some (.ref l)] H1 (fun xs H2 => (V.int c :: xs).length ≤ sizeLine ∧ ∀ p, H2 p = none → Q (.ref p) (upd H2 p (.lst (V.int c :: xs)))) := fun c ec => by
        refine ⟨_, rfl, wk, _, _, rfl, W1.ob, rfl, _, rfl, wk, l, r, true, h, t, rfl, W1, s1 _ _ hlt, by rw [rt]; simp, hv, fun H2 q s2 hq hq2 => ?_⟩
        have s12 := s1.trans s2
        refine ⟨q, Kqv5.full h i1, Kqv5.full h i2, Kqv5.full h i3, rfl, by rw [hq2, rt]; rfl, wfh.full_le _, wfh.full_le _, wfh.full_le _, by show 2 ≤ sizeLine; decide, ?_⟩
        refine fin_lst post es (WAo.same (s := some h) ⟨W, wfh⟩ s12) Grow.refl (same_keep s12) ?_
        rw [ec, rt]; rfl
      refine ite_b (fun e2 => fin 1 (if_pos (of_decide_eq_true e2))) (fun e2 => fin 0 (if_neg (of_decide_eq_false e2)))
end
end B
namespace B
open PySem PySem.Spec PyProof.Rows L2
open Kqv5 (Hall)
section
variable {P : Program} {w : World} {K : PySem.W.Frag} {mg : Str → Option Value} {base : Heap}
variable {T : Txt K mg} {H H' : Hp} {wk : Addr} {r : Rep} {st : Bool} {h : Hall}
/-! ### the blades with their addresses; how many sets there are -/
theorem WA.zip1 (W : WA T H wk r st h) : (r.as.zip h.blades).map (fun p => V.ref p.1) = r.as.map V.ref := by
  have e : (r.as.zip h.blades).map (fun p => V.ref p.1) = ((r.as.zip h.blades).map Prod.fst).map V.ref := by rw [List.map_map]; rfl
  rw [e, List.map_fst_zip (by rw [W.alen]; exact Nat.le_refl _)]
theorem WA.zip2 (W : WA T H wk r st h) : (r.as.zip h.blades).map Prod.snd = h.blades := List.map_snd_zip (by rw [W.alen]; exact Nat.le_refl _)
theorem WA.zipL (W : WA T H wk r st h) : SqL K H r.lb ((r.as.zip h.blades).map (fun p => V.ref p.1)) := SqL.of (by rw [W.zip1]; exact W.lst)
theorem WA.zipA (W : WA T H wk r st h) {i : Nat} {p : Addr × Kqv5.Blade} (e : (r.as.zip h.blades)[i]? = some p) : BladeAt T H p.1 p.2 := by
  obtain ⟨a, b⟩ := p
  rw [List.getElem?_zip_eq_some] at e
  exact W.bl i a b e.1 e.2
theorem WA.zipN (W : WA T H wk r st h) (hl : h.blades.length ≤ 20) : (r.as.zip h.blades).length < 1000 := by
  rw [List.length_zip]; omega
theorem some_count {α : Type} : ∀ L : List (Option α), (L.filterMap id).length = L.countP Option.isSome
  | [] => rfl
  | none :: L => by rw [List.filterMap_cons]; simp [some_count L]
  | some x :: L => by rw [List.filterMap_cons]; simp [some_count L]
theorem sets_count {α : Type} (L : List (Option α)) (ks : List Nat) (nd : ks.Nodup) (hk : ∀ k, k ∈ ks ↔ ∃ t, L[k]? = some (some t)) : ks.length = (L.filterMap id).length := by
  have e1 : L = (List.range L.length).map fun k => L.getD k none := by
    apply List.ext_getElem
    · simp
    · intro i h1 h2
      simp [h1]
  have p : ks.Perm ((List.range L.length).filter fun k => (L.getD k none).isSome) := by
    refine (List.perm_ext_iff_of_nodup nd (List.nodup_range.sublist List.filter_sublist)).mpr fun k => ?_
    rw [hk, List.mem_filter, List.mem_range, List.getD_eq_getElem?_getD]
    constructor
    · rintro ⟨t, e⟩
      exact ⟨(List.getElem?_eq_some_iff.mp e).1, by rw [e]; rfl⟩
    · rintro ⟨h1, h2⟩
      rw [List.getElem?_eq_getElem h1] at h2 ⊢
      cases e : L[k] with
      | none => rw [e] at h2; cases h2
      | some t => exact ⟨t, rfl⟩
  rw [p.length_eq, some_count, ← List.countP_eq_length_filter]
  conv => rhs; rw [e1]
  rw [List.countP_map]
  rfl
theorem WA.count (W : WA T H wk r st h) : r.kvs.length = (h.sets.filterMap id).length := by
  rw [← sets_count h.sets (r.kvs.map (·.1)) W.kn fun k => ?_, List.length_map]
  constructor
  · intro m
    obtain ⟨p, hp, rfl⟩ := List.mem_map.mp m
    obtain ⟨t, e, _⟩ := W.ks p hp
    exact ⟨t, e⟩
  · rintro ⟨t, e⟩
    obtain ⟨l, hl⟩ := W.sk k t e
    exact List.mem_map.mpr ⟨_, hl, rfl⟩
def sp_reply_sums (T : Txt K mg) : Sp := fun vs H Q _ => ∃ (wk p : Addr) (r : Rep) (h : Hall), vs = [.ref wk, .ref p] ∧ WA T H wk r true h ∧ M.Wf h ∧ Post T wk r H Q (some h) .sums
theorem ok_reply_sums (T : Txt K mg) : FnOk P w K mg base CX0 1 T.f_reply_sums T.fd_reply_sums ["works", "numbers"] (sp_reply_sums T) := by
  refine T.F_reply_sums.ok sc_reply_sums (fun vs H Q E h => ?_) (fun cdv A outer s H vs Q E hr h => ?_)
  · obtain ⟨wk, p, r, h, rfl, _⟩ := h
    rfl
  · obtain ⟨wk, p, r, h, rfl, W, wfh, post⟩ := h
    refine ⟨_, (pss_cons (ps_setLc (i := 2) (own := [("blade", 3)]) (g := (gName 3)) (tt := tYes) (te := (tFld K (tVar 3) "moment")) rfl sc_reply_sums.nd rfl (by rfl) (sw_true rfl (by rfl) (by rfl) (by decide +kernel)) (pi_list (pe_fld (pv 0) rfl)) (blkOk_by (show blkC ["works", "numbers", "moments", "blade"] (defScope s_reply_sums) _ [("blade", 3)] = true by decide +kernel)) (fun _ _ _ _ _ => by exact (pg_name (i := 3) sc_reply_sums.nd rfl (by first | exact Or.inl rfl | exact Or.inr rfl))) (fun _ _ _ _ _ => by exact pts_nil) (fun _ _ _ _ _ => by exact pe_fld (pv 3) rfl))
      (pss_one (ps_ret (pe_lst (pa_cons (pe_callB (cr_sum rfl) (by rfl) T.no_sum boot_sumB (pa_cons (pv 2) pa_nil)) (pa_cons (pe_callB (cr_sum rfl) (by rfl) T.no_sum boot_sumB (pa_cons (pe_lc (own := [("blade", 3)]) (g := (gName 3)) (tt := tYes) (te := (tFld K (tVar 3) "added")) rfl sc_reply_sums.nd (pi_list (pe_fld (pv 0) rfl)) (blkOk_by (show blkC ["works", "numbers", "moments", "blade"] (defScope s_reply_sums) _ [("blade", 3)] = true by decide +kernel)) (fun _ _ _ _ _ => by exact (pg_name (i := 3) sc_reply_sums.nd rfl (by first | exact Or.inl rfl | exact Or.inr rfl))) (fun _ _ _ _ _ => by exact pts_nil) (fun _ _ _ _ _ => by exact pe_fld (pv 3) rfl)) pa_nil)) pa_nil)))))), ?_⟩
    have nm : ∀ (g : Kqv5.Blade → Nat), ((r.as.zip h.blades).filter (fun _ => true)).map (fun p => V.int ((g p.2 : Nat) : Int)) = vn (h.blades.map g) := fun g => by
      rw [show (r.as.zip h.blades).filter (fun _ => true) = r.as.zip h.blades from by simp, vn_map, List.map_map]
      conv => rhs; rw [← W.zip2, List.map_map]
      rfl
    refine ⟨_, rfl, wk, _, _, _, _, rfl, W.ob, T.cl_Works, T.na_Works_blades, rfl, r.lb, rfl, ⟨_, W.zipL⟩, fun D hD => lc_mapL (r.as.zip h.blades) (fun p => V.ref p.1) (fun _ => true) (fun p => V.int ((p.2.moment : Nat) : Int)) hD W.zipL (W.zipN wfh.len) (fun i z H2 Tr Fa hz hs h1 h2 => ?_) (fun H2 s2 hD2 => ?_)⟩
    · refine ⟨rfl, iteT (B := Fa H2) ?_⟩
      obtain ⟨dx, hdx⟩ := (W.same hs).zipA hz
      exact ⟨_, rfl, z.1, _, dx, _, _, rfl, hdx, T.cl_Blade, T.na_Blade_moment, bf_moment z.2, h1 rfl H2 (Same.refl _)⟩
    · rw [nm] at hD2
      refine ⟨_, rfl, D, _, rfl, SqL.of hD2, ?_⟩
      rw [nats_sum]
      have W2 := W.same s2
      refine ⟨_, rfl, wk, _, _, _, _, rfl, W2.ob, T.cl_Works, T.na_Works_blades, rfl, r.lb, rfl, ⟨_, W2.zipL⟩, fun D3 hD3 => lc_mapL (r.as.zip h.blades) (fun p => V.ref p.1) (fun _ => true) (fun p => V.int ((p.2.added : Nat) : Int)) hD3 W2.zipL (W.zipN wfh.len) (fun i z H3 Tr Fa hz hs h1 h2 => ?_) (fun H3 s3 hD4 => ?_)⟩
      · refine ⟨rfl, iteT (B := Fa H3) ?_⟩
        obtain ⟨dx, hdx⟩ := (W2.same hs).zipA hz
        exact ⟨_, rfl, z.1, _, dx, _, _, rfl, hdx, T.cl_Blade, T.na_Blade_added, bf_added z.2, h1 rfl H3 (Same.refl _)⟩
      · rw [nm] at hD4
        refine ⟨D3, _, rfl, SqL.of hD4, by show 2 ≤ sizeLine; decide, ?_⟩
        rw [nats_sum]
        have s23 := s2.trans s3
        refine fin_lst post (a := .some_ (Kqv5.sum (h.blades.map fun b => b.moment) : Nat) [(Kqv5.sum (h.blades.map fun b => b.added) : Nat)]) ?_ (WAo.same (s := some h) ⟨W, wfh⟩ s23) Grow.refl (same_keep s23) rfl
        unfold Kqv5.step; simp only
def sp_reply_state (T : Txt K mg) : Sp := fun vs H Q _ => ∃ (wk p : Addr) (r : Rep) (h : Hall), vs = [.ref wk, .ref p] ∧ WA T H wk r true h ∧ M.Wf h ∧ Post T wk r H Q (some h) .state
theorem ok_reply_state (T : Txt K mg) : FnOk P w K mg base CX0 1 T.f_reply_state T.fd_reply_state ["works", "numbers"] (sp_reply_state T) := by
  refine T.F_reply_state.ok sc_reply_state (fun vs H Q E h => ?_) (fun cdv A outer s H vs Q E hr h => ?_)
  · obtain ⟨wk, p, r, h, rfl, _⟩ := h
    rfl
  · obtain ⟨wk, p, r, h, rfl, W, wfh, post⟩ := h
    refine ⟨_, (pss_cons (ps_setLc (i := 2) (own := [("blade", 3)]) (g := (gName 3)) (tt := (tB (tFld K (tVar 3) "gone"))) (te := (tVar 3)) rfl sc_reply_state.nd rfl (by rfl) (sw_true rfl (by rfl) (by rfl) (by decide +kernel)) (pi_list (pe_fld (pv 0) rfl)) (blkOk_by (show blkC ["works", "numbers", "gone", "blade"] (defScope s_reply_state) _ [("blade", 3)] = true by decide +kernel)) (fun _ _ _ _ _ => by exact (pg_name (i := 3) sc_reply_state.nd rfl (by first | exact Or.inl rfl | exact Or.inr rfl))) (fun _ _ _ _ _ => by exact pts_one (pt_val (pe_fld (pv 3) rfl))) (fun _ _ _ _ _ => by exact pv 3))
      (pss_one (ps_ret (pe_lst (pa_cons (pe_callB call_len_seq (by rfl) T.no_len PySem.boot_len (pa_cons (pe_fld (pv 0) rfl) pa_nil)) (pa_cons (pe_callB call_len_seq (by rfl) T.no_len PySem.boot_len (pa_cons (pv 2) pa_nil)) (pa_cons (pe_callB call_lenD (by rfl) T.no_len PySem.boot_len (pa_cons (pe_fld (pv 0) rfl) pa_nil)) (pa_cons (pe_fld (pv 0) rfl) (pa_cons (pe_fld (pv 0) rfl) pa_nil))))))))), ?_⟩
    refine ⟨_, rfl, wk, _, _, _, _, rfl, W.ob, T.cl_Works, T.na_Works_blades, rfl, r.lb, rfl, ⟨_, W.zipL⟩, fun D hD => lc_mapL (r.as.zip h.blades) (fun p => V.ref p.1) (fun p => p.2.gone) (fun p => V.ref p.1) hD W.zipL (W.zipN wfh.len) (fun i z H2 Tr Fa hz hs h1 h2 => ?_) (fun H2 s2 hD2 => ?_)⟩
    · obtain ⟨dx, hdx⟩ := (W.same hs).zipA hz
      refine ⟨rfl, _, rfl, z.1, _, dx, _, _, rfl, hdx, T.cl_Blade, T.na_Blade_gone, bf_gone z.2, _, rfl, ?_⟩
      exact ite_b (fun q => ⟨_, rfl, h1 q H2 (Same.refl _)⟩) (fun q => h2 q H2 (Same.refl _))
    · have W2 := W.same s2
      refine rd_blades W2 rfl ⟨r.lb, _, rfl, .inl (SqL.of W2.lst), _, rfl, D, _, rfl, .inl (SqL.of hD2), rd_trios W2 rfl ⟨r.dt, _, rfl, W2.dct, rd_most W2 rfl (rd_unit W2 rfl ⟨by show 5 ≤ sizeLine; decide, ?_⟩)⟩⟩
      refine fin_lst post (a := .some_ h.blades.length [((h.blades.filter fun b => b.gone).length : Nat), ((h.sets.filterMap id).length : Nat), h.most, h.unit]) ?_ (WAo.same (s := some h) ⟨W, wfh⟩ s2) Grow.refl (same_keep s2) ?_
      · unfold Kqv5.step; simp only
      · have e1 : ((r.as.map V.ref).length) = h.blades.length := by rw [List.length_map, W.alen]
        have e2 : (((r.as.zip h.blades).filter fun p => p.2.gone).map fun p => V.ref p.1).length = (h.blades.filter fun b => b.gone).length := by
          rw [List.length_map]
          conv => rhs; rw [← W.zip2, List.filter_map, List.length_map]
          rfl
        have e3 : (r.kvs.map fun p => ((Sum.inl ((p.1 : Nat) : Int) : Key), V.ref p.2)).length = (h.sets.filterMap id).length := by rw [List.length_map, W.count]
        show [V.int (((r.as.map V.ref).length : Nat) : Int), V.int (((((r.as.zip h.blades).filter fun p => p.2.gone).map fun p => V.ref p.1).length : Nat) : Int), V.int (((r.kvs.map fun p => ((Sum.inl ((p.1 : Nat) : Int) : Key), V.ref p.2)).length : Nat) : Int), V.int ((h.most : Nat) : Int), V.int ((h.unit : Nat) : Int)] = _
        rw [e1, e2, e3]
        rfl
/-! ### sets that are changed -/
theorem KeepB.keep {st' : Bool} {h' : Hall} (W' : WA T H' wk r st' h') (k : KeepB r H H') : Keep wk r H H' := by
  refine ⟨fun c o e n => k c o e fun y => n (.inr (.inr (.inr (.inl y)))), fun c e => ?_⟩
  cases e0 : H c with
  | none => rfl
  | some o =>
    by_cases na : c ∈ r.as
    · obtain ⟨_, _, _, _, dx, q⟩ := W'.mem na
      rw [q] at e; cases e
    · rw [k c o e0 na] at e; cases e
theorem Grow.trans {r1 r2 : Rep} {H1 : Hp} (a : Grow wk H r r1) (b : Grow wk H1 r1 r2) (d : ∀ c, H1 c = none → H c = none) : Grow wk H r r2 := fun c hc => by
  rcases b c hc with z | z
  · exact a c z
  · exact .inr (d c z)
def sp_Works_send_off (T : Txt K mg) : Sp := fun vs H Q _ => ∃ (wk : Addr) (r : Rep) (st : Bool) (h : Hall) (n : Nat) (t : List Nat), vs = [.ref wk, .int (n : Nat)] ∧ WA T H wk r st h ∧ M.Wf h ∧ h.sets[n]? = some (some t) ∧
  ∀ H' r' l, WA T H' wk r' st { h with blades := Kqv5.mark h t fun b => { b with set := 0, gone := true }, sets := h.sets.set n none } → Grow wk H r r' → Keep wk r H H' → H' l = some (.lst (vn t)) → Q (.ref l) H'
theorem ok_Works_send_off (T : Txt K mg) : FnOk P w K mg base CX0 2 T.f_Works_send_off T.fd_Works_send_off ["self", "s"] (sp_Works_send_off T) := by
  refine T.F_Works_send_off.ok sc_Works_send_off (fun vs H Q E h => ?_) (fun cdv A outer s H vs Q E hr h => ?_)
  · obtain ⟨wk, r, st, h, n, t, rfl, _⟩ := h
    rfl
  · obtain ⟨wk, r, st, h, n, t, rfl, W, wfh, hn, k⟩ := h
    refine ⟨_, (pss_cons (ps_set (i := 2) sc_Works_send_off.nd rfl (by first | exact Or.inl rfl | exact Or.inr rfl) (pe_meth (pv 0) T.cl_Works T.m_Works_unbind (ok_Works_unbind T) (hr.mono (by decide)) T.b_Works_unbind .nil pass0 (pa_cons (pv 1) pa_nil)))
      (pss_cons (ps_for PassesOwn.never rfl (pi_list (pv 2)) (pg_name (i := 3) sc_Works_send_off.nd rfl (by first | exact Or.inl rfl | exact Or.inr rfl)) (pss_cons (ps_set (i := 4) sc_Works_send_off.nd rfl (by first | exact Or.inl rfl | exact Or.inr rfl) (pe_ix ix_list (pe_fld (pv 0) rfl) (pv 3) (fun _ _ => rfl)))
      (pss_one (ps_fld (pv 4) (pe_bl) rfl))))
      (pss_one (ps_ret (pv 2))))), ?_⟩
    obtain ⟨⟨i1, i2, i3, rt, d1, d2, d3, _⟩, mm⟩ := wfh.st n t hn
    have nd : t.Nodup := by rw [rt]; simp [d1, d2, d3]
    have hv : ∀ i ∈ t, i < h.blades.length := fun i hi => by
      obtain ⟨b, q, _⟩ := mm i hi
      exact (List.getElem?_eq_some_iff.mp q).1
    refine ⟨_, rfl, wk, _, _, rfl, W.ob, rfl, _, rfl, wk, r, st, h, n, t, rfl, W, wfh, hn, fun H1 r1 l W1 g1 k1 hl1 => ?_⟩
    have hl1' := hl1
    rw [vn_map] at hl1'
    refine ⟨_, rfl, l, rfl, ⟨_, SqL.of hl1'⟩, for_list (K := K) (a := l) (xs := t.map fun n => V.int ((n : Nat) : Int))
      (fun i σ H2 => ∃ v3 v4, σ = [some (.ref wk), some (.int (n : Nat)), some (.ref l), v3, v4] ∧ WA T H2 wk r1 st { h with sets := h.sets.set n none, blades := modl (fun b => { b with gone := true }) (t.take i) (Kqv5.mark h t fun b => { b with set := 0 }) } ∧ KeepB r1 H1 H2)
      ⟨_, _, rfl, W1, fun _ _ e _ => e⟩ (fun i σ H2 _ hI => ?_) (fun i x σ H2 hx hI => ?_) (fun σ H2 hI => ?_)⟩
    · obtain ⟨_, _, _, _, kp⟩ := hI
      exact SqL.of (kp _ _ hl1' (W1.out_lst hl1'))
    · obtain ⟨v3, v4, rfl, W2, kp⟩ := hI
      obtain ⟨z, hz, rfl⟩ := at_map hx
      obtain ⟨a, b, ha, hb, dx, hdx⟩ := W2.get (i := z) (by show z < (modl _ _ _).length; rw [modl_len, M.mark_len]; exact hv z (List.mem_of_getElem? hz))
      have hb : (modl (fun b => { b with gone := true }) (t.take i) (Kqv5.mark h t fun b => { b with set := 0 }))[z]? = some b := hb
      refine rd_blade W2 rfl ha (fun Q' q => ⟨_, rfl, q⟩) ?_
      refine ⟨_, rfl, a, _, dx, _, rfl, hdx, T.cl_Blade, T.na_Blade_gone, by show 5 < 1000; decide, _, _, rfl, ?_, ?_⟩
      · have W4 := W2.blade (b' := { b with gone := true }) (H' := upd H2 a (.ins T.C_Blade dx (putF "gone" (V.bl true) (bf b)))) ha hb ⟨dx, by rw [upd_same]; rfl⟩ (fun c o e n => by rw [upd_ne n]; exact e)
        have e1 : modl (fun b => { b with gone := true }) (t.take (i + 1)) (Kqv5.mark h t fun b => { b with set := 0 }) = (modl (fun b => { b with gone := true }) (t.take i) (Kqv5.mark h t fun b => { b with set := 0 })).set z { b with gone := true } := by
          rw [take_snoc hz, modl_snoc, modify_set _ _ b _ hb]
        rw [e1]
        exact W4
      · intro c o e n
        rw [upd_ne (fun z => n (by rw [z]; exact List.mem_of_getElem? ha))]
        exact kp c o e n
    · obtain ⟨v3, v4, rfl, W2, kp⟩ := hI
      rw [List.length_map, List.take_length] at W2
      have e3 : modl (fun b => { b with gone := true }) t (Kqv5.mark h t fun b => { b with set := 0 }) = Kqv5.mark h t fun b => { b with set := 0, gone := true } := by
        apply List.ext_getElem?
        intro j
        rw [modl_at _ t nd, M.mark_at, M.mark_at]
        cases h.blades[j]? with
        | none => rfl
        | some b => by_cases c : j ∈ t <;> simp [c]
      rw [e3] at W2
      exact ⟨_, rfl, k H2 r1 l W2 g1 (k1.trans g1 (KeepB.keep W2 kp)) (kp _ _ hl1 (W1.out_lst hl1))⟩
def sp_reply_ship (T : Txt K mg) : Sp := fun vs H Q _ => ∃ (wk p : Addr) (r : Rep) (h : Hall) (n : Nat), vs = [.ref wk, .ref p] ∧ WA T H wk r true h ∧ M.Wf h ∧ H p = some (.lst (vn [n])) ∧ Post T wk r H Q (some h) (.ship n)
theorem full_gone (h : Hall) (l : List Nat) (ss : List (Option (List Nat))) (x : Nat) : Kqv5.full { h with blades := Kqv5.mark h l fun b => { b with set := 0, gone := true }, sets := ss } x = Kqv5.full h x := by
  unfold Kqv5.full
  show (((Kqv5.mark h l fun b => { b with set := 0, gone := true })[x]?).map fun b => b.moment + b.added).getD 0 = _
  rw [M.mark_at]
  cases h.blades[x]? with
  | none => rfl
  | some b => simp only [Option.map_some]; split <;> rfl
theorem ok_reply_ship (T : Txt K mg) : FnOk P w K mg base CX0 5 T.f_reply_ship T.fd_reply_ship ["works", "numbers"] (sp_reply_ship T) := by
  refine T.F_reply_ship.ok sc_reply_ship (fun vs H Q E h => ?_) (fun cdv A outer s H vs Q E hr h => ?_)
  · obtain ⟨wk, p, r, h, n, rfl, _⟩ := h
    rfl
  · obtain ⟨wk, p, r, h, n, rfl, W, wfh, hp, post⟩ := h
    refine ⟨_, (pss_cons (ps_set (i := 2) sc_reply_ship.nd rfl (by first | exact Or.inl rfl | exact Or.inr rfl) (pe_ix ix_list (pv 1) (pe_int) (fun _ _ => rfl)))
      (pss_cons (ps_if (pt_cmp (pc_dnotin (hu_of hr) (pv 2) (pe_fld (pv 0) rfl))) (pss_one (ps_ret (pe_lst (pa_cons (pe_glob (v := V.int (-2)) (by rfl) T.mg_NO_SUCH ⟨_, rfl⟩) pa_nil)))) (pss_nil))
      (pss_cons (ps_if (pt_not (pt_val (pe_meth (pv 0) T.cl_Works T.m_Works_needs_nothing (ok_Works_needs_nothing T) (hr.mono (by decide)) T.b_Works_needs_nothing .nil pass0 (pa_cons (pe_dget (hu_of hr) (pe_fld (pv 0) rfl) (pv 2) (fun _ _ => rfl)) pa_nil)))) (pss_one (ps_ret (pe_lst (pa_cons (pe_glob (v := V.int (-13)) (by rfl) T.mg_NOT_EVEN ⟨_, rfl⟩) pa_nil)))) (pss_nil))
      (pss_cons (ps_set (i := 3) sc_reply_ship.nd rfl (by first | exact Or.inl rfl | exact Or.inr rfl) (pe_meth (pv 0) T.cl_Works T.m_Works_send_off (ok_Works_send_off T) (hr.mono (by decide)) T.b_Works_send_off .nil pass0 (pa_cons (pv 2) pa_nil)))
      (pss_one (ps_ret (pe_lst (pa_cons (pe_callB (cr_sum rfl) (by rfl) T.no_sum boot_sumB (pa_cons (pe_meth (pv 0) T.cl_Works T.m_Works_pulls (ok_Works_pulls T) (hr.mono (by decide)) T.b_Works_pulls .nil pass0 (pa_cons (pv 3) pa_nil)) pa_nil)) pa_nil)))))))), ?_⟩
    have hl : SqL K H p (vn [n]) := SqL.of hp
    refine ⟨_, rfl, p, _, _, _, rfl, rfl, hl, atI_nat (j := 0) (vn_at rfl), ?_⟩
    refine ⟨_, rfl, _, rfl, wk, _, _, _, _, rfl, W.ob, T.cl_Works, T.na_Works_trios, rfl, r.dt, _, rfl, DGet.k (k := Sum.inl ((n : Nat) : Int)) W.dct, _, rfl, ?_⟩
    obtain ⟨e0, g0⟩ | ⟨l, t, e0, hl0, g0, hn, hlt⟩ := W.look n
    · rw [e0]
      refine iteT (fin_same post ?_ ⟨W, wfh⟩ (Same.refl _))
      unfold Kqv5.step; simp only [g0]
    · rw [e0]
      refine iteF ?_
      obtain ⟨⟨i1, i2, i3, rt, _⟩, mm⟩ := wfh.st n t hn
      have hv : ∀ i ∈ t, i < h.blades.length := fun i hi => by
        obtain ⟨b, q, _⟩ := mm i hi
        exact (List.getElem?_eq_some_iff.mp q).1
      refine ⟨_, rfl, wk, _, _, rfl, W.ob, rfl, _, rfl, wk, _, _, _, _, rfl, W.ob, T.cl_Works, T.na_Works_trios, rfl, _, rfl, r.dt, _, rfl, .inl ⟨_, Sum.inl ((n : Nat) : Int), .inl W.dct, rfl, e0.symm⟩, wk, l, r, true, h, t, rfl, W, wfh, hlt, by rw [rt]; simp, by rw [rt]; simp, hv, fun H1 s1 => ⟨_, rfl, ?_⟩⟩
      refine ite_b (fun e2 => fin_same post ?_ ⟨W, wfh⟩ s1) (fun e2 => ?_)
      · have c := of_decide_eq_false (not_t e2)
        unfold Kqv5.step; simp only [g0]; rw [if_pos c]
      have c := of_decide_eq_true (not_f e2)
      have W0 := W.same s1
      refine ⟨_, rfl, wk, _, _, rfl, W0.ob, rfl, _, rfl, wk, r, true, h, n, t, rfl, W0, wfh, hn, fun H2 r2 l2 W2 g2 k2 hl2 => ?_⟩
      have wf1 : M.Wf _ := wfh.parted hn (fun b => { b with set := 0, gone := true }) fun b => ⟨rfl, rfl, rfl, rfl⟩
      have hv2 : ∀ i ∈ t, i < (Kqv5.mark h t fun b => { b with set := 0, gone := true }).length := fun i hi => by
        rw [M.mark_len]; exact hv i hi
      refine ⟨_, rfl, wk, _, _, rfl, W2.ob, rfl, _, rfl, wk, l2, r2, true, _, t, rfl, W2, hl2, by rw [rt]; simp, hv2, fun H3 q s3 hq hq3 => ?_⟩
      have ef : (fun x => Kqv5.full { h with blades := Kqv5.mark h t fun b => { b with set := 0, gone := true }, sets := h.sets.set n none } x) = Kqv5.full h := funext fun x => full_gone _ _ _ _
      refine ⟨q, _, rfl, SqL.of hq3, ?_⟩
      rw [nats_sum]
      refine fin_num post (s' := some { h with blades := Kqv5.mark h t fun b => { b with set := 0, gone := true }, sets := h.sets.set n none }) ?_ ⟨W2.same s3, wf1⟩ (fun x hx => (g2 x hx).imp id fun z => s1.free z) ((same_keep s1).trans Grow.refl (k2.trans g2 (same_keep s3)))
      unfold Kqv5.step; simp only [g0]
      rw [if_neg (fun z => z c), show List.map (Kqv5.full { h with blades := Kqv5.mark h t fun b => { b with set := 0, gone := true }, sets := h.sets.set n none }) t = t.map (Kqv5.full h) from by rw [← ef]]
end
end B
namespace B
open PySem PySem.Spec PyProof.Rows L2
open Kqv5 (Hall)
section
variable {P : Program} {w : World} {K : PySem.W.Frag} {mg : Str → Option Value} {base : Heap}
variable {T : Txt K mg} {H H' : Hp} {wk : Addr} {r : Rep} {st : Bool} {h : Hall}
/-- the hall without the set n -/
def loosed (h : Hall) (n : Nat) (t : List Nat) : Hall := { h with blades := Kqv5.mark h t fun b => { b with set := 0 }, sets := h.sets.set n none }
def sp_Works_rebind (T : Txt K mg) : Sp := fun vs H Q _ => ∃ (wk p : Addr) (r : Rep) (st : Bool) (h : Hall) (n : Nat) (t l : List Nat), vs = [.ref wk, .int (n : Nat), .ref p] ∧ WA T H wk r st h ∧ M.Wf h ∧ h.sets[n]? = some (some t) ∧ H p = some (.lst (vn l)) ∧ ¬ inF wk r p ∧ l ≠ [] ∧ l.Nodup ∧ l.length ≤ 100 ∧ (∀ i ∈ l, i < h.blades.length) ∧
  ∀ H' r', WA T H' wk r' st { h with blades := bound (loosed h n t) l n, sets := h.sets.set n (some l) } → Grow wk H r r' → Keep wk r H H' → Q .non H'
theorem ok_Works_rebind (T : Txt K mg) : FnOk P w K mg base CX0 6 T.f_Works_rebind T.fd_Works_rebind ["self", "s", "numbers"] (sp_Works_rebind T) := by
  refine T.F_Works_rebind.ok sc_Works_rebind (fun vs H Q E h => ?_) (fun cdv A outer s H vs Q E hr h => ?_)
  · obtain ⟨wk, p, r, st, h, n, t, l, rfl, _⟩ := h
    rfl
  · obtain ⟨wk, p, r, st, h, n, t, l, rfl, W, wfh, hn, hp, hpf, hne, nd, hlen, hv, k⟩ := h
    refine ⟨_, (pss_cons (ps_expr (pe_meth (pv 0) T.cl_Works T.m_Works_unbind (ok_Works_unbind T) (hr.mono (by decide)) T.b_Works_unbind .nil pass0 (pa_cons (pv 1) pa_nil)))
      (pss_one (ps_expr (pe_meth (pv 0) T.cl_Works T.m_Works_bind_as (ok_Works_bind_as T) (hr.mono (by decide)) T.b_Works_bind_as .nil pass0 (pa_cons (pv 1) (pa_cons (pv 2) pa_nil)))))), ?_⟩
    refine ⟨_, rfl, wk, _, _, rfl, W.ob, rfl, _, rfl, wk, r, st, h, n, t, rfl, W, wfh, hn, fun H1 r1 l1 W1 g1 k1 hl1 => ?_⟩
    have wf1 : M.Wf (loosed h n t) := wfh.parted hn (fun b => { b with set := 0 }) fun b => ⟨rfl, rfl, rfl, rfl⟩
    have hp1 := k1.k _ _ hp hpf
    have nlt : n < h.sets.length := (List.getElem?_eq_some_iff.mp hn).1
    refine ⟨_, rfl, wk, _, _, rfl, W1.ob, rfl, _, rfl, _, rfl, wk, p, r1, st, loosed h n t, l, n, h.sets.set n (some l), rfl, W1, wf1, hp1, hne, nd, hlen, fun i hi => ?_, fun t' z => ?_, fun m t' => ?_, fun H2 r2 W2 g2 k2 => ?_⟩
    · show i < (Kqv5.mark _ _ _).length
      rw [M.mark_len]; exact hv i hi
    · exact ((M.set_none_at _ _ _ _).mp z).1 rfl
    · show _ ↔ _ ∨ (m ≠ n ∧ (h.sets.set n none)[m]? = _)
      rw [M.set_some_at _ _ _ _ _ nlt, M.set_none_at]
      constructor
      · rintro (z | ⟨z1, z2⟩)
        · exact .inl z
        · exact .inr ⟨z1, z1, z2⟩
      · rintro (z | ⟨z1, _, z2⟩)
        · exact .inl z
        · exact .inr ⟨z1, z2⟩
    · exact k H2 r2 W2 (g1.trans g2 k1.d) (k1.trans g1 k2)
theorem mem_changed {l : List Nat} {i x j : Nat} (hi : i ∈ l) : j ∈ (l.map fun j => if j = i then x else j) ↔ j = x ∨ (j ∈ l ∧ j ≠ i) := by
  rw [List.mem_map]
  constructor
  · rintro ⟨k, hk, e⟩
    by_cases c : k = i
    · rw [if_pos c] at e; exact .inl e.symm
    · rw [if_neg c] at e; subst e; exact .inr ⟨hk, c⟩
  · rintro (rfl | ⟨h1, h2⟩)
    · exact ⟨i, hi, if_pos rfl⟩
    · exact ⟨j, h1, if_neg h2⟩
theorem changed_nodup {a b c i x : Nat} (n1 : a ≠ b) (n2 : b ≠ c) (n3 : a ≠ c) (hx : x ∉ [a, b, c]) (hi : i ∈ [a, b, c]) : ([a, b, c].map fun j => if j = i then x else j).Nodup := by
  simp only [List.mem_cons, List.not_mem_nil, or_false, not_or] at hx hi
  rcases hi with rfl | rfl | rfl
  · simp [n1.symm, n3.symm, n2, hx.2.1, hx.2.2]
  · simp [n1, n2.symm, n3, hx.2.2, Ne.symm hx.1]
  · simp [n2, n3, n1, Ne.symm hx.1, Ne.symm hx.2.1]
theorem ex_bound (wf_ : M.Wf h) {t i x : Nat} {l : List Nat} (ht : h.sets[t]? = some (some l)) (hi : i ∈ l) (hx : x ∉ l) (nd : (l.map fun j => if j = i then x else j).Nodup) : bound (loosed h t l) (l.map fun j => if j = i then x else j) t = (M.exchanged h t i x l).blades := by
  obtain ⟨_, mm⟩ := wf_.st t l ht
  apply List.ext_getElem?
  intro j
  unfold bound
  have ef : Kqv5.full (loosed h t l) = Kqv5.full h := funext fun y => M.full_mark _ _ _ _
  rw [modl_at _ _ nd, M.adds_at, M.exchanged_at, ef]
  show Option.map _ (Option.map _ ((Kqv5.mark h l fun b => { b with set := 0 })[j]?)) = _
  rw [M.mark_at]
  have eu : (loosed h t l).unit = h.unit := rfl
  rw [eu]
  cases e : h.blades[j]? with
  | none => rfl
  | some b =>
    simp only [Option.map_some, List.contains_iff_mem, mem_changed hi]
    by_cases c1 : j = x
    · subst c1
      have c2 : j ≠ i := fun z => hx (z ▸ hi)
      simp [hx, c2]
    · by_cases c2 : j ∈ l
      · by_cases c3 : j = i
        · subst c3
          simp [c1, c2]
        · obtain ⟨b', q, s'⟩ := mm j c2
          rw [e] at q
          cases q
          obtain ⟨kd, mo, ad, se, go⟩ := b
          have s' : se = t + 1 := s'
          subst s'
          simp [c1, c2, c3]
      · have c3 : j ≠ i := fun z => c2 (z ▸ hi)
        simp [c1, c2, c3]
def sp_reply_exchange (T : Txt K mg) : Sp := fun vs H Q _ => ∃ (wk p : Addr) (r : Rep) (h : Hall) (n i x : Nat), vs = [.ref wk, .ref p] ∧ WA T H wk r true h ∧ M.Wf h ∧ H p = some (.lst (vn [n, i, x])) ∧ Post T wk r H Q (some h) (.exchange n i x)
theorem ok_reply_exchange (T : Txt K mg) : FnOk P w K mg base CX0 7 T.f_reply_exchange T.fd_reply_exchange ["works", "numbers"] (sp_reply_exchange T) := by
  refine T.F_reply_exchange.ok sc_reply_exchange (fun vs H Q E h => ?_) (fun cdv A outer s H vs Q E hr h => ?_)
  · obtain ⟨wk, p, r, h, n, i, x, rfl, _⟩ := h
    rfl
  · obtain ⟨wk, p, r, h, n, i, x, rfl, W, wfh, hp, post⟩ := h
    refine ⟨_, (pss_cons (ps_set (i := 2) sc_reply_exchange.nd rfl (by first | exact Or.inl rfl | exact Or.inr rfl) (pe_ix ix_list (pv 1) (pe_int) (fun _ _ => rfl)))
      (pss_cons (ps_set (i := 3) sc_reply_exchange.nd rfl (by first | exact Or.inl rfl | exact Or.inr rfl) (pe_ix ix_list (pv 1) (pe_int) (fun _ _ => rfl)))
      (pss_cons (ps_set (i := 4) sc_reply_exchange.nd rfl (by first | exact Or.inl rfl | exact Or.inr rfl) (pe_ix ix_list (pv 1) (pe_int) (fun _ _ => rfl)))
      (pss_cons (ps_if (pt_cmp (pc_dnotin (hu_of hr) (pv 2) (pe_fld (pv 0) rfl))) (pss_one (ps_ret (pe_lst (pa_cons (pe_glob (v := V.int (-2)) (by rfl) T.mg_NO_SUCH ⟨_, rfl⟩) pa_nil)))) (pss_nil))
      (pss_cons (ps_set (i := 5) sc_reply_exchange.nd rfl (by first | exact Or.inl rfl | exact Or.inr rfl) (pe_dget (hu_of hr) (pe_fld (pv 0) rfl) (pv 2) (fun _ _ => rfl)))
      (pss_cons (ps_if (PW.pt (pw_or (pt_cmpR op_notIn_seq (pv 3) (pv 5) (by with_unfolding_all rfl)) (pw_or1 (pt_not (pt_val (pe_meth (pv 0) T.cl_Works T.m_Works_has_blades (ok_Works_has_blades T) (hr.mono (by decide)) T.b_Works_has_blades .nil pass0 (pa_cons (pe_lst (pa_cons (pv 4) pa_nil)) pa_nil))))))) (pss_one (ps_ret (pe_lst (pa_cons (pe_glob (v := V.int (-22)) (by rfl) T.mg_WRONG ⟨_, rfl⟩) pa_nil)))) (pss_nil))
      (pss_cons (ps_if (PW.pt (pw_or (pt_not (pt_val (pe_meth0 (pe_ix ix_list (pe_fld (pv 0) rfl) (pv 4) (fun _ _ => rfl)) T.cl_Blade T.m_Blade_is_free (ok_Blade_is_free T) (hr.mono (by decide)) T.b_Blade_is_free .nil pass0))) (pw_or1 (pt_not (pt_val (pe_meth (pv 0) T.cl_Works T.m_Works_of_one_kind (ok_Works_of_one_kind T) (hr.mono (by decide)) T.b_Works_of_one_kind .nil pass0 (pa_cons (pe_lst (pa_cons (pv 3) (pa_cons (pv 4) pa_nil))) pa_nil))))))) (pss_one (ps_ret (pe_lst (pa_cons (pe_glob (v := V.int (-16)) (by rfl) T.mg_NOT_FREE ⟨_, rfl⟩) pa_nil)))) (pss_nil))
      (pss_cons (ps_setLc (i := 6) (own := [("j", 7)]) (g := (gName 7)) (tt := tYes) (te := (tIf (tTest (tOp rEq (tVar 7) (tVar 3))) (tVar 4) (tVar 7))) rfl sc_reply_exchange.nd rfl (by rfl) (sw_true rfl (by rfl) (by rfl) (by decide +kernel)) (pi_list (pv 5)) (blkOk_by (show blkC ["works", "numbers", "s", "i", "x", "trio", "changed", "j"] (defScope s_reply_exchange) _ [("j", 7)] = true by decide +kernel)) (fun _ _ _ _ _ => by exact (pg_name (i := 7) sc_reply_exchange.nd rfl (by first | exact Or.inl rfl | exact Or.inr rfl))) (fun _ _ _ _ _ => by exact pts_nil) (fun _ _ _ _ _ => by exact pe_ifExp (pt_cmpR op_eq (pv 7) (pv 3) (nomark _)) (pv 4) (pv 7)))
      (pss_cons (ps_if (pt_not (pt_val (pe_meth (pv 0) T.cl_Works T.m_Works_may_be_set (ok_Works_may_be_set T) (hr.mono (by decide)) T.b_Works_may_be_set .nil pass0 (pa_cons (pv 6) pa_nil)))) (pss_one (ps_ret (pe_lst (pa_cons (pe_glob (v := V.int (-62)) (by rfl) T.mg_TOO_MUCH ⟨_, rfl⟩) pa_nil)))) (pss_nil))
      (pss_cons (ps_expr (pe_meth (pv 0) T.cl_Works T.m_Works_rebind (ok_Works_rebind T) (hr.mono (by decide)) T.b_Works_rebind .nil pass0 (pa_cons (pv 2) (pa_cons (pv 6) pa_nil))))
      (pss_one (ps_ret (pe_meth (pv 0) T.cl_Works T.m_Works_pulls (ok_Works_pulls T) (hr.mono (by decide)) T.b_Works_pulls .nil pass0 (pa_cons (pe_lst (pa_cons (pv 3) pa_nil)) pa_nil)))))))))))))), ?_⟩
    have hl : SqL K H p (vn [n, i, x]) := SqL.of hp
    refine ⟨_, rfl, p, _, _, _, rfl, rfl, hl, atI_nat (j := 0) (vn_at rfl), ?_⟩
    refine ⟨_, rfl, p, _, _, _, rfl, rfl, hl, atI_nat (j := 1) (vn_at rfl), ?_⟩
    refine ⟨_, rfl, p, _, _, _, rfl, rfl, hl, atI_nat (j := 2) (vn_at rfl), ?_⟩
    refine ⟨_, rfl, _, rfl, wk, _, _, _, _, rfl, W.ob, T.cl_Works, T.na_Works_trios, rfl, r.dt, _, rfl, DGet.k (k := Sum.inl ((n : Nat) : Int)) W.dct, _, rfl, ?_⟩
    obtain ⟨e0, g0⟩ | ⟨l, t, e0, hl0, g0, hn, hlt⟩ := W.look n
    · rw [e0]
      refine iteT (fin_same post ?_ ⟨W, wfh⟩ (Same.refl _))
      unfold Kqv5.step; simp only [g0]
    rw [e0]
    refine iteF ?_
    refine ⟨_, rfl, wk, _, _, _, _, rfl, W.ob, T.cl_Works, T.na_Works_trios, rfl, _, rfl, r.dt, _, rfl, .inl ⟨_, Sum.inl ((n : Nat) : Int), .inl W.dct, rfl, e0.symm⟩, ?_⟩
    -- i not in trio
    refine ⟨_, rfl, _, rfl, l, _, rfl, .inl (SqL.of hlt), rfl, vn_flat _, _, rfl, ?_⟩
    refine ite_b (fun e2 => iteT (fin_same post ?_ ⟨W, wfh⟩ (Same.refl _))) (fun e2 => ?_)
    · have c : t.contains i = false := by
        have e2 : (!inV (V.int ((i : Nat) : Int)) (vn t)) = true := e2
        rw [inV_vn] at e2
        exact not_t e2
      unfold Kqv5.step; simp only [g0]; rw [if_pos (.inl c)]
    have c : t.contains i = true := by
      have e2 : (!inV (V.int ((i : Nat) : Int)) (vn t)) = false := e2
      rw [inV_vn] at e2
      exact not_f e2
    have ci : i ∈ t := List.contains_iff_mem.mp c
    have nc : ¬ t.contains i = false := by rw [c]; decide
    -- has_blades([x])
    refine ⟨_, rfl, wk, _, _, rfl, W.ob, rfl, _, rfl, by show 1 ≤ sizeLine; decide, fun p1 hp1 => ?_⟩
    have s1 : Same H (upd H p1 (.lst [V.int (x : Nat)])) := fun b u e => by rw [upd_ne (ne_of_none e hp1)]; exact e
    have W1 := W.same s1
    refine ⟨wk, p1, r, true, h, [x], rfl, W1, by rw [upd_same]; rfl, by simp, _, rfl, ?_⟩
    refine ite_b (fun e3 => fin_same post ?_ ⟨W, wfh⟩ s1) (fun e3 => ?_)
    · have cx : h.blades.length ≤ x := by simp at e3; omega
      unfold Kqv5.step; simp only [g0]; rw [if_pos (.inr cx)]
    have cx : x < h.blades.length := by simp at e3; omega
    have n1 : ¬ (t.contains i = false ∨ h.blades.length ≤ x) := by rintro (z | z); exact nc z; omega
    -- is_free
    obtain ⟨a, b, ha, hb, Bl⟩ := W1.get cx
    obtain ⟨dx, hdx⟩ := id Bl
    have ef : Kqv5.isFree h x = (b.set == 0 && !b.gone) := M.free_of hb
    generalize hH1 : upd H p1 (.lst [V.int (x : Nat)]) = H1 at s1 W1 Bl hdx ⊢
    refine ⟨_, rfl, wk, _, _, _, _, rfl, W1.ob, T.cl_Works, T.na_Works_blades, rfl, _, rfl, r.lb, _, _, _, rfl, rfl, SqL.of W1.lst, atI_nat (j := x) (by rw [List.getElem?_map, ha]; rfl), a, dx, _, rfl, hdx, rfl, a, b, rfl, Bl, _, rfl, ?_⟩
    refine ite_b (fun e4 => iteT (fin_same post ?_ ⟨W, wfh⟩ s1)) (fun e4 => ?_)
    · unfold Kqv5.step; simp only [g0]; rw [if_neg n1, if_pos (.inl (ef.trans (not_t e4)))]
    have fx : Kqv5.isFree h x = true := ef.trans (not_f e4)
    -- of_one_kind([i, x])
    obtain ⟨⟨i1, i2, i3, rt, d1, d2, d3, k1, k2⟩, mm⟩ := wfh.st n t hn
    have hv : ∀ j ∈ t, j < h.blades.length := fun j hj => by
      obtain ⟨b, q, _⟩ := mm j hj
      exact (List.getElem?_eq_some_iff.mp q).1
    refine ⟨_, rfl, wk, _, _, rfl, W1.ob, rfl, _, rfl, _, rfl, by show 2 ≤ sizeLine; decide, fun p2 hp2 => ?_⟩
    have s2 : Same H1 (upd H1 p2 (.lst [V.int (i : Nat), V.int (x : Nat)])) := fun b u e => by rw [upd_ne (ne_of_none e hp2)]; exact e
    have W2 := W1.same s2
    refine ⟨wk, p2, r, true, h, i, [x], rfl, W2, by rw [upd_same]; rfl, by simp, ?_, fun H3 s3 => ⟨_, rfl, ?_⟩⟩
    · intro j hj
      simp at hj
      rcases hj with rfl | rfl
      · exact hv _ ci
      · exact cx
    have s13 := (s1.trans s2).trans s3
    have W3 := W.same s13
    refine ite_b (fun e5 => fin_same post ?_ ⟨W, wfh⟩ s13) (fun e5 => ?_)
    · have c5 := not_t e5
      have kk : Kqv5.kind h x ≠ Kqv5.kind h i := fun z => by
        have q : ([i, x].all fun i_1 => decide (Kqv5.kind h i_1 = Kqv5.kind h i)) = true := by simp [z]
        exact absurd (q.symm.trans c5) (by decide)
      unfold Kqv5.step; simp only [g0]; rw [if_neg n1, if_pos (.inr kk)]
    have kk : Kqv5.kind h x = Kqv5.kind h i := by simpa using not_f e5
    have n2 : ¬ (Kqv5.isFree h x = false ∨ Kqv5.kind h x ≠ Kqv5.kind h i) := by rintro (z | z); rw [fx] at z; cases z; exact z kk
    -- changed
    have hlt3 := s13 _ _ hlt
    have hlt3' := hlt3
    rw [vn_map] at hlt3'
    refine ⟨_, rfl, l, rfl, ⟨_, SqL.of hlt3'⟩, fun D hD => lc_mapL t (fun n => V.int ((n : Nat) : Int)) (fun _ => true) (fun j => V.int (((if j = i then x else j : Nat)) : Int)) hD (SqL.of hlt3') (by rw [rt]; simp) (fun m z H4 Tr Fa hz hs h1 h2 => ?_) (fun H4 s4 hD4 => ?_)⟩
    · refine ⟨rfl, iteT (B := Fa H4) ⟨_, rfl, _, rfl, rfl, _, rfl, ?_⟩⟩
      refine ite_b (fun e6 => ?_) (fun e6 => ?_)
      · have z1 : z = i := by
          have := of_decide_eq_true e6
          injection this with this; omega
        refine ⟨_, rfl, ?_⟩
        have := h1 rfl H4 (Same.refl _)
        rw [if_pos z1] at this
        exact this
      · have z1 : ¬ z = i := fun q => of_decide_eq_false e6 (by rw [q])
        refine ⟨_, rfl, ?_⟩
        have := h1 rfl H4 (Same.refl _)
        rw [if_neg z1] at this
        exact this
    have ech : ((t.filter fun _ => true).map fun j => V.int (((if j = i then x else j : Nat)) : Int)) = vn (t.map fun j => if j = i then x else j) := by
      rw [show t.filter (fun _ => true) = t from by simp, vn_map, List.map_map]; rfl
    rw [ech] at hD4
    have s14 := s13.trans s4
    have W4 := W.same s14
    have xt : x ∉ t := fun z => by
      obtain ⟨b', q, s'⟩ := mm x z
      rw [M.free_of q, s'] at fx
      exact absurd fx (by simp)
    have ndn : (t.map fun j => if j = i then x else j).Nodup := by
      rw [rt] at xt ci ⊢
      exact changed_nodup d1 d2 d3 xt ci
    have hvn : ∀ j ∈ (t.map fun j => if j = i then x else j), j < h.blades.length := fun j hj => by
      rcases (mem_changed ci).mp hj with rfl | ⟨z, _⟩
      · exact cx
      · exact hv j z
    have nen : (t.map fun j => if j = i then x else j) ≠ [] := by rw [rt]; simp
    have nln : (t.map fun j => if j = i then x else j).length ≤ 100 := by rw [rt]; simp
    refine ⟨_, rfl, wk, _, _, rfl, W4.ob, rfl, _, rfl, wk, D, r, true, h, _, rfl, W4, wfh, hD4, nen, nln, hvn, fun H5 s5 => ⟨_, rfl, ?_⟩⟩
    have s15 := s14.trans s5
    refine ite_b (fun e6 => fin_same post ?_ ⟨W, wfh⟩ s15) (fun e6 => ?_)
    · unfold Kqv5.step; simp only [g0]; rw [if_neg n1, if_neg n2, if_pos (not_t e6)]
    have cm := not_f e6
    have W5 := W.same s15
    have hD5 := s5 _ _ hD4
    have Dn : H D = none := s13.free hD
    have Df : ¬ inF wk r D := fun z => by
      rcases z with z | z | z | z | z
      · rw [z, W.ob] at Dn; cases Dn
      · rw [z, W.lst] at Dn; cases Dn
      · rw [z, W.dct] at Dn; cases Dn
      · obtain ⟨_, _, _, _, dx', q⟩ := W.mem z
        rw [q] at Dn; cases Dn
      · obtain ⟨p', hp', e⟩ := List.mem_map.mp z
        obtain ⟨_, _, q⟩ := W.ks p' hp'
        rw [e, Dn] at q; cases q
    refine ⟨_, rfl, wk, _, _, rfl, W5.ob, rfl, _, rfl, _, rfl, wk, D, r, true, h, n, t, _, rfl, W5, wfh, hn, hD5, Df, nen, ndn, nln, hvn, fun H6 r6 W6 g6 k6 => ?_⟩
    rw [ex_bound wfh hn ci xt ndn] at W6
    have wx := wfh.exchanged hn ci fx kk
    refine ⟨_, rfl, wk, _, _, rfl, W6.ob, rfl, _, rfl, by show 1 ≤ sizeLine; decide, fun p7 hp7 => ?_⟩
    have s7 : Same H6 (upd H6 p7 (.lst [V.int (i : Nat)])) := fun b u e => by rw [upd_ne (ne_of_none e hp7)]; exact e
    have W6' : WA T H6 wk r6 true (M.exchanged h n i x t) := W6
    refine ⟨wk, p7, r6, true, M.exchanged h n i x t, [i], rfl, W6'.same s7, by rw [upd_same]; rfl, by simp, ?_, fun H8 q s8 hq hq8 => ?_⟩
    · intro j hj
      simp at hj
      subst hj
      rw [M.exchanged_len]; exact hv _ ci
    have es : Kqv5.step (some h) (.exchange n i x) = (some (M.exchanged h n i x t), .num (Kqv5.full h i)) := by
      unfold Kqv5.step; simp only [g0]; rw [if_neg n1, if_neg n2, if_neg (by rw [cm]; decide)]; rfl
    have efi : Kqv5.full (M.exchanged h n i x t) i = Kqv5.full h i := by
      unfold Kqv5.full
      rw [M.exchanged_at]
      have ni : ¬ i ∈ (t.map fun j => if j = i then x else j) := fun z => by
        rcases (mem_changed ci).mp z with z | ⟨_, z⟩
        · exact xt (z ▸ ci)
        · exact z rfl
      have nx : ¬ i = x := fun z => xt (z ▸ ci)
      cases h.blades[i]? with
      | none => rfl
      | some b => simp [ni, nx]
    have s78 := s7.trans s8
    refine post H8 r6 q ?_ (fun c hc => (g6 c hc).imp id fun z => s15.free z) ((same_keep s15).trans Grow.refl (k6.trans g6 (same_keep s78))) (s15.free (k6.d q (s7.free hq))) ?_
    · rw [es]; exact ⟨W6'.same s78, wx⟩
    · rw [hq8, es]
      show some (HO.lst (vn [Kqv5.full (M.exchanged h n i x t) i])) = _
      rw [efi]; rfl
end
end B
namespace L2
open PySem PySem.Spec PyProof.Rows
section
variable {P : Program} {w : World} {K : PySem.W.Frag} {mg : Str → Option Value} {base : Heap}
/-- a def's body, its code known -/
theorem Fun.okc {x qual : Str} {st : Stmt} {f : Addr} {fd : FuncData} {N ps : List Str} {k : Nat} {sp : Sp} (F : Fun K x qual st f fd) (S : FnScope N ps (defScope st)) (len : ∀ vs H Q E, sp vs H Q E → vs.length = ps.length)
    (hb : ∀ (cdv : Value), cdv = fd.code → ∀ (A : Around) (outer : List Env) (s : Shared) (H : Hp) (vs : List V) (Q : VK) (E : XK), Room k (A.deeper (envOfC qual (defScope st) s.heap.objs.size f cdv)) → sp vs H Q E →
      ∃ t, PSs (cxOf CX0 P w K mg base N qual (defScope st) f cdv A outer s H E).nox (defBody st) t ∧ t { nx := fun _ H' => Q .non H', rt := Q } (start N vs) H) : FnOk P w K mg base CX0 (k + 1) f fd ps sp := by
  obtain ⟨oc, od, kV, doc, pm, an, cdv, ct, osl, rfl, lk, hcd⟩ := F.ex
  refine fn_of lk hcd S len fun A outer s H vs Q E hr hsp => ?_
  obtain ⟨t, h, q⟩ := hb cdv rfl A outer s H vs Q E hr hsp
  exact ⟨t, h.nox, q⟩
end
/-- a comprehension over a range with a step -/
theorem lc_rangeC {lo c : Int} {n : Nat} {g : TG} {tt : TT} {te : TE} {vs : List Nat} {σ : L2.St} {H1 : Hp} {D : Addr} {Qd : Hp → Prop} (Pv : Nat → Hp → Prop) (h0 : Pv 0 (upd H1 D (.lst [])))
    (hs : ∀ i H, i < n → Pv i H → g (.int (lo + (i : Nat) * c)) (wipe σ vs) H fun σ2 H2 => wipe σ2 vs = wipe σ vs ∧ tt σ2 H2 fun b H3 =>
      if b = true then te σ2 H3 fun y H4 => ∃ acc, H4 D = some (.lst acc) ∧ acc.length < sizeLine ∧ Pv (i + 1) (upd H4 D (.lst (acc ++ [y]))) else Pv (i + 1) H3) (hd : ∀ H, Pv n H → Qd H) :
    ∃ W : Nat → Nat → Hp → Prop, (∃ m, W 0 m (upd H1 D (.lst []))) ∧ ∀ i m H, W i m H →
      ((Itc lo c n).stop i H ∧ Qd H) ∨ ((Itc lo c n).go i H ∧ ∃ Nx : Hp → Prop, (∀ H', Nx H' → ∃ m', m' < m ∧ W (i + 1) m' H') ∧ ∀ x H', (Itc lo c n).yld i H x H' → g x (wipe σ vs) H' fun σ2 H2 => wipe σ2 vs = wipe σ vs ∧ tt σ2 H2 fun b H3 =>
        if b = true then te σ2 H3 fun y H4 => ∃ acc, H4 D = some (.lst acc) ∧ acc.length < sizeLine ∧ Nx (upd H4 D (.lst (acc ++ [y]))) else Nx H3) := by
  refine ⟨fun i m H => m = n - i ∧ i ≤ n ∧ Pv i H, ⟨n, by simp, Nat.zero_le _, h0⟩, ?_⟩
  rintro i m H ⟨rfl, hi, p⟩
  by_cases hlt : i < n
  · refine .inr ⟨hlt, Pv (i + 1), fun H' p' => ⟨n - (i + 1), by omega, rfl, hlt, p'⟩, fun x H' y => ?_⟩
    obtain ⟨e, y⟩ := y
    subst e y
    exact hs i _ hlt p
  · have e : i = n := by omega
    subst e
    exact .inl ⟨Nat.le_refl _, hd H p⟩
end L2
namespace B
open PySem PySem.Spec PyProof.Rows L2
open Kqv5 (Hall)
/-! ### the table of plan's code -/
def lamQ : Str := ("Works.plan" : Str) ++ ".<locals>." ++ "<lambda>"
def lamPos : Pos := ⟨330, 53, 330, 90⟩
theorem leK_iff (a b i j : Nat) : leK [-((a : Nat) : Int), ((i : Nat) : Int)] [-((b : Nat) : Int), ((j : Nat) : Int)] ↔ b < a ∨ (a = b ∧ i ≤ j) := by
  show (decide (-((b : Nat) : Int) < -((a : Nat) : Int)) || (!decide (-((a : Nat) : Int) < -((b : Nat) : Int)) && (decide (((j : Nat) : Int) < ((i : Nat) : Int)) || (!decide (((i : Nat) : Int) < ((j : Nat) : Int)) && false)))) = false ↔ _
  rw [Bool.and_false, Bool.or_false]
  by_cases c1 : b < a
  · rw [decide_eq_false (show ¬ -((b : Nat) : Int) < -((a : Nat) : Int) by omega), decide_eq_true (show -((a : Nat) : Int) < -((b : Nat) : Int) by omega)]
    simp [c1]
  · by_cases c2 : a = b
    · subst c2
      by_cases c3 : i ≤ j
      · rw [decide_eq_false (show ¬ ((j : Nat) : Int) < ((i : Nat) : Int) by omega)]
        simp [c3]
      · rw [decide_eq_true (show ((j : Nat) : Int) < ((i : Nat) : Int) by omega)]
        simp [c3]
    · rw [decide_eq_true (show -((b : Nat) : Int) < -((a : Nat) : Int) by omega)]
      simp [c1, c2]
theorem rg3 (n : Nat) (h : n ≤ 20) : RgC 0 ((n : Int) - 2) 3 (n / 3) := by
  have all : ∀ m : Fin 21, Builtin.Range.small 0 ((m.1 : Int) - 2) 3 = true ∧ Builtin.Range.rangeSize 0 ((m.1 : Int) - 2) 3 = ((m.1 / 3 : Nat) : Int) := by decide
  have q := all ⟨n, by omega⟩
  exact ⟨by decide, by decide, q.1, q.2⟩
theorem cut_of {xs : List V} {a b : Nat} (h : a ≤ b) (hb : b ≤ xs.length) : cutV xs (some ((a : Nat) : Int)) (some ((b : Nat) : Int)) = (xs.drop a).take (b - a) := by
  unfold cutV
  rw [HT.sIx_nat, HT.sIx_nat, Nat.min_eq_left (show a ≤ xs.length by omega), Nat.min_eq_left hb]
section
variable {P : Program} {w : World} {K : PySem.W.Frag} {mg : Str → Option Value} {base : Heap}
variable {T : Txt K mg} {H H' : Hp} {wk : Addr} {r : Rep} {st : Bool} {h : Hall}
def TabAt (T : Txt K mg) (H : Hp) : Prop := ∃ ps, H T.P_Works_plan = some (.tbl ps) ∧ TabSt H lamPos lamQ ps
theorem TabAt.same (t : TabAt T H) (s : Same H H') : TabAt T H' := by
  obtain ⟨ps, h1, h2⟩ := t
  refine ⟨ps, s _ _ h1, ?_⟩
  rcases h2 with z | ⟨c, z, q⟩
  · exact .inl z
  · exact .inr ⟨c, z, s _ _ q⟩
/-- the works' own things are of their own kinds -/
theorem WA.kinds (W : WA T H wk r st h) {c : Addr} (hc : inF wk r c) : ∃ o, H c = some o ∧ (∀ ps, o ≠ .tbl ps) ∧ ∀ φ, o ≠ .ext φ := by
  rcases hc with z | z | z | z | z
  · rw [z]; exact ⟨_, W.ob, (fun _ q => nomatch q), fun _ q => nomatch q⟩
  · rw [z]; exact ⟨_, W.lst, (fun _ q => nomatch q), fun _ q => nomatch q⟩
  · rw [z]; exact ⟨_, W.dct, (fun _ q => nomatch q), fun _ q => nomatch q⟩
  · obtain ⟨_, _, _, _, dx', q⟩ := W.mem z
    exact ⟨_, q, (fun _ q => nomatch q), fun _ q => nomatch q⟩
  · obtain ⟨p', hp', e⟩ := List.mem_map.mp z
    obtain ⟨_, _, q⟩ := W.ks p' hp'
    rw [e] at q
    exact ⟨_, q, (fun _ q => nomatch q), fun _ q => nomatch q⟩
theorem WA.noTab (W : WA T H wk r st h) {c : Addr} {ps : Array Value} (e : H c = some (.tbl ps)) : ¬ inF wk r c := fun z => by
  obtain ⟨o, q, n, _⟩ := W.kinds z
  rw [e] at q; cases q; exact n _ rfl
theorem WA.noExt (W : WA T H wk r st h) {c : Addr} {φ : Heap → Prop} (e : H c = some (.ext φ)) : ¬ inF wk r c := fun z => by
  obtain ⟨o, q, _, n⟩ := W.kinds z
  rw [e] at q; cases q; exact n _ rfl
theorem WA.frame (W : WA T H wk r st h) (f : ∀ c o, inF wk r c → H c = some o → H' c = some o) : WA T H' wk r st h :=
  ⟨f _ _ (.inl rfl) W.ob, f _ _ (.inr (.inl rfl)) W.lst, W.alen, W.and_, fun j a b h1 h2 => let ⟨dx, e⟩ := W.bl j a b h1 h2; ⟨dx, f _ _ (.inr (.inr (.inr (.inl (List.mem_of_getElem? h1))))) e⟩, f _ _ (.inr (.inr (.inl rfl))) W.dct, W.kn, W.ln, W.lbn,
    fun p hp => let ⟨t, h1, h2⟩ := W.ks p hp; ⟨t, h1, f _ _ (.inr (.inr (.inr (.inr (List.mem_map_of_mem hp))))) h2⟩, W.sk⟩
theorem WA.sameT (W : WA T H wk r st h) (t : TabAt T H) (s : SameT T.P_Works_plan H H') : WA T H' wk r st h := by
  obtain ⟨ps, h1, _⟩ := t
  exact W.frame fun c o hc e => s c o e fun z => W.noTab h1 (z ▸ hc)
/-- lists of numbers, one at each address -/
def Rows (H : Hp) (qs : List Addr) (ts : List (List Nat)) : Prop := qs.length = ts.length ∧ ∀ (i : Nat) (a : Addr) (t : List Nat), qs[i]? = some a → ts[i]? = some t → H a = some (.lst (vn t))
def sp_Works_plan (T : Txt K mg) : Sp := fun vs H Q _ => ∃ (wk : Addr) (r : Rep) (st : Bool) (h : Hall) (n : Nat), vs = [.ref wk, .int (n : Nat)] ∧ WA T H wk r st h ∧ M.Wf h ∧ TabAt T H ∧
  ∀ (H' : Hp) (q : Addr) (qs : List Addr), SameT T.P_Works_plan H H' → TabAt T H' → H q = none → H' q = some (.lst (qs.map V.ref)) → Rows H' qs (Kqv5.plan h n) → (∀ a ∈ qs, H a = none) → Q (.ref q) H'
theorem ok_Works_plan (T : Txt K mg) (hB : BMain mg base) : FnOk P w K mg base CX0 5 T.f_Works_plan T.fd_Works_plan ["self", "kind"] (sp_Works_plan T) := by
  obtain ⟨c0, hc0, hC⟩ := T.cd_Works_plan
  refine T.F_Works_plan.okc sc_Works_plan (fun vs H Q E h => ?_) (fun cdv hcdv A outer s H vs Q E hr h => ?_)
  · obtain ⟨wk, r, st, h, n, rfl, _⟩ := h
    rfl
  · obtain ⟨wk, r, st, h, n, rfl, W, wfh, ht, k⟩ := h
    have ec : cdv = .ref c0 := hcdv.trans hc0
    subst ec
    have hcode : Value.ref c0 = Value.ref c0 := rfl
    refine ⟨_, (pss_cons (ps_set (i := 2) sc_Works_plan.nd rfl (by first | exact Or.inl rfl | exact Or.inr rfl) (pe_sortL (k := 1) (j := 0) (x := "i") (y := "self") (tb := (tTup (tCons (tUn (rU fun i => V.int (-i)) (tMeth T.C_Blade "pull" (sp_Blade_pull T) [] E0 (tOp (rIxL K) (tFld K (tVar 1) "blades") (tVar 0)) tNil)) (tCons (tVar 0) tNil)))) (by rfl) T.no_sorted (pa_cons (pe_meth (pv 0) T.cl_Works T.m_Works_free_of_kind (ok_Works_free_of_kind T) (hr.mono (by decide)) T.b_Works_free_of_kind .nil pass0 (pa_cons (pv 1) pa_nil)) pa_nil) hcode hC hB (by rfl) rfl rfl ⟨rfl, rfl, rfl, by decide, rfl, rfl, by decide, by decide⟩ (fun _ => rfl) rfl (fun _ _ _ _ _ => rfl) (hr.mono (by decide)) (fun _ _ _ _ _ _ _ hr => by exact pe_tup (pa_cons (pe_un un_neg (pe_meth0 (pe_ix ix_list (pe_fld (pv 1) rfl) (pv 0) (fun _ _ => rfl)) T.cl_Blade T.m_Blade_pull (ok_Blade_pull T) (hr.mono (by decide)) T.b_Blade_pull .nil pass0)) (pa_cons (pv 0) pa_nil)))))
      (pss_one (ps_ret (pe_lc (own := [("at", 3)]) (g := (gName 3)) (tt := tYes) (te := (tSl (rSlL K) (tVar 2) (tPart (tVar 3)) (tPart (tOp (rI0 fun i j => V.int (i + j)) (tVar 3) (tC (V.int 3)))))) rfl sc_Works_plan.nd (pi_range3 (by rfl) T.no_range (pa_cons (pe_int) (pa_cons (pe_op op_sub (pe_callB call_len_seq (by rfl) T.no_len PySem.boot_len (pa_cons (pv 2) pa_nil)) (pe_int)) (pa_cons (pe_int) pa_nil)))) (blkOk_by (show blkC ["self", "kind", "ranked", "at"] (defScope s_Works_plan) _ [("at", 3)] = true by decide +kernel)) (fun _ _ _ _ _ => by exact (pg_name (i := 3) sc_Works_plan.nd rfl (by first | exact Or.inl rfl | exact Or.inr rfl))) (fun _ _ _ _ _ => by exact pts_nil) (fun _ _ _ _ _ => by exact pe_slice sl_list (pv 2) (po_some (pv 3)) (po_some (pe_op op_add (pv 3) (pe_int)))))))), ?_⟩
    refine ⟨_, rfl, wk, _, _, rfl, W.ob, rfl, _, rfl, wk, r, st, h, n, rfl, W, wfh.len, fun H1 f s1 hf hf1 => ?_⟩
    have W1 := W.same s1
    have ht1 := ht.same s1
    obtain ⟨ps, hP, hts⟩ := id ht1
    have fl := M.free_len h n
    have bl := wfh.len
    refine ⟨f, Kqv5.nats (Kqv5.free h n), fun z => [-((Kqv5.full h z.toNat : Nat) : Int), z], ps, .ref wk, rfl, SqL.of hf1, by rw [nats_len]; omega, fun z _ => ⟨_, _, rfl⟩, rfl, hP, hts, fun z hz H2 sT => ?_, fun H2 ns' D ps' sT hP2 ts2 hD hD2 pm pw => ?_⟩
    · obtain ⟨i, hi, rfl⟩ := List.mem_map.mp hz
      have W2 := W1.sameT ht1 sT
      obtain ⟨b0, qb, _⟩ := M.free_iff.mp (M.free_mem.mp hi).1
      obtain ⟨a, b, ha, hb, Bl⟩ := W2.get (List.getElem?_eq_some_iff.mp qb).1
      obtain ⟨dx, hdx⟩ := id Bl
      refine rd_blade W2 rfl ha (fun Q' q => ⟨_, rfl, q⟩) ⟨a, dx, _, rfl, hdx, rfl, a, b, rfl, Bl, _, rfl, _, rfl, by show 2 ≤ sizeLine; decide, fun t ht => ⟨fun c o e => by rw [upd_ne (ne_of_none e ht)]; exact e, t, rfl, ?_⟩⟩
      rw [upd_same, ← M.full_of hb]
      rfl
    -- the list is the specification's
    have en : ns' = Kqv5.nats (ns'.map Int.toNat) := by
      unfold Kqv5.nats
      rw [List.map_map]
      have : ∀ z ∈ ns', ((fun (x : Nat) => (x : Int)) ∘ Int.toNat) z = z := fun z hz => by
        obtain ⟨i, _, rfl⟩ := List.mem_map.mp (pm.mem_iff.mp hz)
        rfl
      conv => lhs; rw [← List.map_id ns']
      exact List.map_congr_left fun z hz => (this z hz).symm
    have el : ns'.map Int.toNat = Kqv5.sorted h (Kqv5.free h n) := by
      refine M.sorted_one ?_ ?_
      · have := pm.map Int.toNat
        have e2 : (Kqv5.nats (Kqv5.free h n)).map Int.toNat = Kqv5.free h n := by
          unfold Kqv5.nats
          rw [List.map_map]
          conv => rhs; rw [← List.map_id (Kqv5.free h n)]
          exact List.map_congr_left fun z _ => rfl
        rw [e2] at this
        exact this
      · rw [List.pairwise_map]
        refine pw.imp_of_mem fun {x y} hx hy q => ?_
        obtain ⟨i, _, rfl⟩ := List.mem_map.mp (pm.mem_iff.mp hx)
        obtain ⟨j, _, rfl⟩ := List.mem_map.mp (pm.mem_iff.mp hy)
        exact M.before_iff.mpr ((leK_iff _ _ _ _).mp q)
    rw [en, el] at hD2
    have hD2 : H2 D = some (.lst (vn (Kqv5.sorted h (Kqv5.free h n)))) := hD2
    have sl : (Kqv5.sorted h (Kqv5.free h n)).length = (Kqv5.free h n).length := (M.sorted_perm h _).length_eq
    generalize hS : Kqv5.sorted h (Kqv5.free h n) = S at hD2 sl
    have s12 : SameT T.P_Works_plan H H2 := fun b o e nb => sT b o (s1 b o e) nb
    have ht2 : TabAt T H2 := ⟨ps', hP2, ts2⟩
    refine ⟨_, rfl, D, _, rfl, .inl (SqL.of hD2), _, _, rfl, rfl, 0, _, 3, S.length / 3, rfl, by rw [vn_len]; exact rg3 _ (by omega), fun D2 hDn => lc_rangeC
      (fun i H3 => ∃ qs : List Addr, Same H2 H3 ∧ H3 D2 = some (.lst (qs.map V.ref)) ∧ qs.length = i ∧ ∀ (m : Nat) (a : Addr), qs[m]? = some a → H3 a = some (.lst (vn ((S.drop (3 * m)).take 3))) ∧ H2 a = none)
      ⟨[], fun b u e => by rw [upd_ne (ne_of_none e hDn)]; exact e, upd_same, rfl, fun m a e => by simp at e⟩ (fun i H3 hi hI => ?_) (fun H3 hI => ?_)⟩
    · obtain ⟨qs, s3, hD3, hq, hqs⟩ := hI
      refine ⟨rfl, ?_⟩
      unfold tYes
      refine iteT ?_
      refine ⟨_, rfl, _, rfl, _, rfl, _, rfl, _, _, rfl, rfl, _, rfl, D, _, rfl, SqL.of (s3 _ _ hD2), fun q hqn => ?_⟩
      have ecut : cutV (vn S) (some (0 + ((i : Nat) : Int) * 3)) (some (0 + ((i : Nat) : Int) * 3 + 3)) = vn ((S.drop (3 * i)).take 3) := by
        have e1 : (0 : Int) + ((i : Nat) : Int) * 3 = ((3 * i : Nat) : Int) := by omega
        have e2 : ((3 * i : Nat) : Int) + 3 = ((3 * i + 3 : Nat) : Int) := by omega
        rw [e1, e2, cut_of (by omega) (by rw [vn_len]; omega), show 3 * i + 3 - 3 * i = 3 by omega, vn_map, vn_map, List.map_take, List.map_drop]
      have hqn2 : H2 q = none := s3.free hqn
      have nq : ∀ {c : Addr} {o : HO}, H3 c = some o → c ≠ q := fun e => ne_of_none e hqn
      have D2q : D2 ≠ q := nq hD3
      refine ⟨qs.map V.ref, by rw [upd_ne D2q]; exact hD3, by rw [List.length_map, hq]; exact Nat.lt_of_lt_of_le (show i < 1000 by omega) (by decide), qs ++ [q], fun b u e => ?_, ?_, ?_, fun m a ha => ?_⟩
      · have n1 : b ≠ D2 := ne_of_none e hDn
        rw [upd_ne n1, upd_ne (nq (s3 _ _ e))]
        exact s3 _ _ e
      · rw [upd_same, List.map_append]; rfl
      · rw [List.length_append, List.length_singleton, hq]
      · by_cases c : m < i
        · rw [List.getElem?_append_left (by omega)] at ha
          obtain ⟨z1, z2⟩ := hqs m a ha
          have n1 : a ≠ D2 := fun z => by
            rw [z, hD3] at z1
            injection z1 with z1
            injection z1 with z1
            have := congrArg List.length z1
            rw [List.length_map, vn_len, List.length_take, List.length_drop, hq] at this
            have e0 : m < qs.length := by omega
            have h0 : (qs.map V.ref)[0]? = (vn ((S.drop (3 * m)).take 3))[0]? := by rw [z1]
            rw [List.getElem?_map, vn_map, List.getElem?_map, List.getElem?_eq_getElem (by omega)] at h0
            cases e3 : ((S.drop (3 * m)).take 3)[0]? with
            | none => rw [e3] at h0; cases h0
            | some v => rw [e3] at h0; cases h0
          rw [upd_ne n1, upd_ne (nq z1)]
          exact ⟨z1, z2⟩
        · have hm : m = i := by
            have := (List.getElem?_eq_some_iff.mp ha).1
            rw [List.length_append, List.length_singleton, hq] at this
            omega
          subst hm
          rw [List.getElem?_append_right (by omega), hq, Nat.sub_self] at ha
          have ha : q = a := by simpa using ha
          subst ha
          rw [upd_ne D2q.symm, upd_same]
          exact ⟨by rw [← ecut], hqn2⟩
    · obtain ⟨qs, s3, hD3, hq, hqs⟩ := hI
      have ep : ∀ (m : Nat) (t : List Nat), (Kqv5.plan h n)[m]? = some t → t = (S.drop (3 * m)).take 3 := fun m t e => by
        have hm := (List.getElem?_eq_some_iff.mp e).1
        rw [M.plan_len] at hm
        rw [M.plan_at hm, hS] at e
        exact (Option.some.inj e).symm
      refine k H3 D2 qs (s12.trans s3.toT) (ht2.same s3) (s12.free hDn fun z => by rw [z, hP2] at hDn; cases hDn) hD3 ⟨by rw [hq, M.plan_len, sl], fun m a t ha e => ?_⟩ (fun a ha => ?_)
      · rw [ep m t e]
        exact (hqs m a ha).1
      · obtain ⟨m, hm⟩ := List.getElem?_of_mem ha
        exact s12.free (hqs m a hm).2 fun z => by
          have := (hqs m a hm).2
          rw [z, hP2] at this; cases this
end
end B
namespace B
open PySem PySem.Spec PyProof.Rows L2
open Kqv5 (Hall)
section
variable {P : Program} {w : World} {K : PySem.W.Frag} {mg : Str → Option Value} {base : Heap}
variable {T : Txt K mg} {H H' : Hp} {wk : Addr} {r : Rep} {st : Bool} {h : Hall}
/-! ### replies beside which the table may grow -/
structure KeepT (T : Txt K mg) (wk : Addr) (r : Rep) (H H' : Hp) : Prop where
  k : ∀ c o, H c = some o → ¬ inF wk r c → c ≠ T.P_Works_plan → H' c = some o
  d : ∀ c, H' c = none → H c = none
def PostT (T : Txt K mg) (wk : Addr) (r : Rep) (H : Hp) (Q : VK) (s : Option Hall) (c : Kqv5.Call) : Prop := ∀ H' r' q, WAo T H' wk r' (Kqv5.step s c).1 → Grow wk H r r' → KeepT T wk r H H' → TabAt T H' → H q = none →
  H' q = some (.lst ((Kqv5Neutral.tell (Kqv5.step s c).2).map V.int)) → Q (.ref q) H'
theorem keepT_of (s : SameT T.P_Works_plan H H') (t : TabAt T H') : KeepT T wk r H H' := by
  refine ⟨fun c o e _ n => s c o e n, fun c e => ?_⟩
  by_cases z : c = T.P_Works_plan
  · obtain ⟨ps, q, _⟩ := t
    rw [z, q] at e; cases e
  · exact s.free e z
theorem Keep.toT (k : Keep wk r H H') : KeepT T wk r H H' := ⟨fun c o e n _ => k.k c o e n, k.d⟩
theorem KeepT.trans {r' : Rep} {H2 : Hp} (k1 : KeepT T wk r H H') (g : Grow wk H r r') (k2 : KeepT T wk r' H' H2) : KeepT T wk r H H2 :=
  ⟨fun c o e n np => k2.k c o (k1.k c o e n np) (fun z => (g c z).elim n fun q => (nomatch (e.symm.trans q))) np, fun c e => k1.d c (k2.d c e)⟩
theorem TabAt.keep (t : TabAt T H) (W : WA T H wk r st h) (k : Keep wk r H H') : TabAt T H' := by
  obtain ⟨ps, h1, h2⟩ := t
  refine ⟨ps, k.k _ _ h1 (W.noTab h1), ?_⟩
  rcases h2 with z | ⟨c, z, q⟩
  · exact .inl z
  · exact .inr ⟨c, z, k.k _ _ q (W.noExt q)⟩
/-- an older reply's end, from the wider one -/
theorem PostT.post {Q : VK} {s : Option Hall} {c : Kqv5.Call} (p : PostT T wk r H Q s c) (W : WAo T H wk r s) (t : TabAt T H) : Post T wk r H Q s c := fun H' r' q W' g k hq hq' => by
  refine p H' r' q W' g k.toT ?_ hq hq'
  cases s with
  | none => exact t.keep W k
  | some h => exact t.keep W.1 k
theorem finT_lst {Q : VK} {s s' : Option Hall} {c : Kqv5.Call} {a : Kqv5.Ans} {r2 : Rep} {H2 : Hp} (P : PostT T wk r H Q s c) (e : Kqv5.step s c = (s', a)) (W2 : WAo T H2 wk r2 s') (g : Grow wk H r r2) (k : KeepT T wk r H H2) (t : TabAt T H2) {xs : List V} (hx : xs = (Kqv5Neutral.tell a).map V.int) :
    ∀ q, H2 q = none → Q (.ref q) (upd H2 q (.lst xs)) := fun q hq => by
  have s2 : Same H2 (upd H2 q (.lst xs)) := fun b u e => by rw [upd_ne (ne_of_none e hq)]; exact e
  refine P _ r2 q (by rw [e]; exact W2.same s2) g ⟨fun c o e n np => s2 _ _ (k.k c o e n np), fun c z => k.d c (s2.free z)⟩ (t.same s2) (k.d q hq) ?_
  rw [upd_same, hx, e]
theorem finT_num {Q : VK} {s s' : Option Hall} {c : Kqv5.Call} {v : Int} {r2 : Rep} {H2 : Hp} (P : PostT T wk r H Q s c) (e : Kqv5.step s c = (s', .num v)) (W2 : WAo T H2 wk r2 s') (g : Grow wk H r r2) (k : KeepT T wk r H H2) (t : TabAt T H2) :
    ([V.int v].length ≤ sizeLine ∧ ∀ q, H2 q = none → Q (.ref q) (upd H2 q (.lst [V.int v]))) := ⟨by show 1 ≤ sizeLine; decide, finT_lst P e W2 g k t rfl⟩
theorem finT_same {Q : VK} {s : Option Hall} {c : Kqv5.Call} {v : Int} {H2 : Hp} (P : PostT T wk r H Q s c) (e : Kqv5.step s c = (s, .num v)) (W : WAo T H wk r s) (t : TabAt T H) (s2 : Same H H2) :
    ([V.int v].length ≤ sizeLine ∧ ∀ q, H2 q = none → Q (.ref q) (upd H2 q (.lst [V.int v]))) := finT_num P e (W.same s2) Grow.refl (same_keep s2).toT (t.same s2)
theorem Rows.get {qs : List Addr} {ts : List (List Nat)} (R : Rows H qs ts) {i : Nat} {a : Addr} (e : qs[i]? = some a) : ∃ t, ts[i]? = some t ∧ H a = some (.lst (vn t)) := by
  have hi : i < ts.length := by rw [← R.1]; exact (List.getElem?_eq_some_iff.mp e).1
  exact ⟨_, List.getElem?_eq_getElem hi, R.2 i a _ e (List.getElem?_eq_getElem hi)⟩
theorem Rows.same {qs : List Addr} {ts : List (List Nat)} (R : Rows H qs ts) (s : Same H H') : Rows H' qs ts := ⟨R.1, fun i a t h1 h2 => s _ _ (R.2 i a t h1 h2)⟩
theorem take_flat (ts : List (List Nat)) {i : Nat} {t : List Nat} (e : ts[i]? = some t) : (ts.take (i + 1)).flatten = (ts.take i).flatten ++ t := by
  rw [take_snoc e, List.flatten_append]; simp
def sp_reply_plan (T : Txt K mg) : Sp := fun vs H Q _ => ∃ (wk p : Addr) (r : Rep) (h : Hall) (n : Nat), vs = [.ref wk, .ref p] ∧ WA T H wk r true h ∧ M.Wf h ∧ TabAt T H ∧ H p = some (.lst (vn [n])) ∧ PostT T wk r H Q (some h) (.plan n)
theorem ok_reply_plan (T : Txt K mg) (hB : BMain mg base) : FnOk P w K mg base CX0 6 T.f_reply_plan T.fd_reply_plan ["works", "numbers"] (sp_reply_plan T) := by
  refine T.F_reply_plan.ok sc_reply_plan (fun vs H Q E h => ?_) (fun cdv A outer s H vs Q E hr h => ?_)
  · obtain ⟨wk, p, r, h, n, rfl, _⟩ := h
    rfl
  · obtain ⟨wk, p, r, h, n, rfl, W, wfh, ht, hp, post⟩ := h
    refine ⟨_, (pss_cons (ps_set (i := 2) sc_reply_plan.nd rfl (by first | exact Or.inl rfl | exact Or.inr rfl) (pe_ix ix_list (pv 1) (pe_int) (fun _ _ => rfl)))
      (pss_cons (ps_if (pt_cmpR op_gt (pv 2) (pe_glob (v := V.int 3) (by rfl) T.mg_GREATEST_KIND ⟨_, rfl⟩) (nomark _)) (pss_one (ps_ret (pe_lst (pa_cons (pe_glob (v := V.int (-22)) (by rfl) T.mg_WRONG ⟨_, rfl⟩) pa_nil)))) (pss_nil))
      (pss_cons (ps_set (i := 3) sc_reply_plan.nd rfl (by first | exact Or.inl rfl | exact Or.inr rfl) (pe_meth (pv 0) T.cl_Works T.m_Works_plan (ok_Works_plan T hB) (hr.mono (by decide)) T.b_Works_plan .nil pass0 (pa_cons (pv 2) pa_nil)))
      (pss_cons (ps_set (i := 4) sc_reply_plan.nd rfl (by first | exact Or.inl rfl | exact Or.inr rfl) (pe_lst (pa_cons (pe_callB call_len_seq (by rfl) T.no_len PySem.boot_len (pa_cons (pv 3) pa_nil)) pa_nil)))
      (pss_cons (ps_for PassesOwn.never rfl (pi_list (pv 3)) (pg_name (i := 5) sc_reply_plan.nd rfl (by first | exact Or.inl rfl | exact Or.inr rfl)) (pss_one (ps_expr (pe_bm PySem.F.plainAttrs_list PySem.F.slot_list_extend PySem.F.type_list_extend mt_extend (pv 4) (pa_cons (pv 5) pa_nil)))))
      (pss_one (ps_ret (pv 4)))))))), ?_⟩
    have hl : SqL K H p (vn [n]) := SqL.of hp
    refine ⟨_, rfl, p, _, _, _, rfl, rfl, hl, atI_nat (j := 0) (vn_at rfl), ?_⟩
    refine ⟨_, rfl, _, _, rfl, rfl, _, rfl, ?_⟩
    refine ite_b (fun e => finT_same post ?_ ⟨W, wfh⟩ ht (Same.refl _)) (fun e => ?_)
    · have := of_decide_eq_true e
      unfold Kqv5.step; simp only; rw [if_pos (by omega)]
    have c1 := of_decide_eq_false e
    refine ⟨_, rfl, wk, _, _, rfl, W.ob, rfl, _, rfl, wk, r, true, h, n, rfl, W, wfh, ht, fun H1 q qs sT ht1 hq hq1 R hqs => ?_⟩
    have W1 := W.sameT ht sT
    refine ⟨_, rfl, q, _, rfl, .inl (SqL.of hq1), by show 1 ≤ sizeLine; decide, fun g hg => ?_⟩
    have s2 : Same H1 (upd H1 g (.lst [V.int ((qs.map V.ref).length : Nat)])) := fun b u e => by rw [upd_ne (ne_of_none e hg)]; exact e
    have pl := M.plan_len h n
    have fl := M.free_len h n
    have bl := wfh.len
    have flat : ∀ i, ((Kqv5.plan h n).take i).flatten.length ≤ 60 := fun i => by
      have e1 : ((Kqv5.plan h n).take i).flatten.length ≤ (Kqv5.plan h n).flatten.length := by
        conv => rhs; rw [← List.take_append_drop i (Kqv5.plan h n), List.flatten_append, List.length_append]
        omega
      rw [M.plan_flat, List.length_take] at e1
      omega
    have hq2 : ∀ {H3 : Hp}, (∀ c o, H1 c = some o → H3 c = some o) → SqL K H3 q (qs.map V.ref) := fun f => SqL.of (f _ _ hq1)
    have stp : ∀ {c : Addr} {o : HO}, H1 c = some o → c ≠ g := fun e => ne_of_none e hg
    refine ⟨_, rfl, q, rfl, ⟨_, hq2 s2⟩, for_list (K := K) (a := q) (xs := qs.map V.ref)
      (fun i σ H3 => ∃ v5, σ = [some (.ref wk), some (.ref p), some (.int (n : Nat)), some (.ref q), some (.ref g), v5] ∧ (∀ c o, H1 c = some o → H3 c = some o) ∧ H3 g = some (.lst (V.int ((qs.map V.ref).length : Nat) :: vn ((Kqv5.plan h n).take i).flatten)) ∧ (∀ c, H3 c = none → H1 c = none))
      ⟨_, rfl, s2, upd_same, fun c e => s2.free e⟩ (fun i σ H3 _ hI => ?_) (fun i x σ H3 hx hI => ?_) (fun σ H3 hI => ?_)⟩
    · obtain ⟨_, _, f, _⟩ := hI
      exact hq2 f
    · obtain ⟨v5, rfl, f, hg3, fr⟩ := hI
      rw [List.getElem?_map] at hx
      obtain ⟨a, ha, rfl⟩ := Option.map_eq_some_iff.mp hx
      obtain ⟨t, ht', hat⟩ := R.get ha
      have ha3 := f _ _ hat
      have ag : a ≠ g := stp hat
      have t3 : t.length = 3 := M.plan_three (List.mem_of_getElem? ht')
      have fi := flat i
      refine ⟨_, rfl, .inl ⟨rfl, _, SqL.of hg3⟩, _, rfl, g, a, _, _, rfl, rfl, hg3, ha3, ?_, ?_⟩
      · rw [List.length_cons, vn_len, vn_len]
        exact Nat.le_trans (show _ ≤ 1000 by omega) (by decide)
      · refine ⟨_, rfl, fun c o e => by rw [upd_ne (stp e)]; exact f c o e, ?_, fun c e => ?_⟩
        · rw [upd_same, take_flat _ ht', List.cons_append, vn_map, vn_map, vn_map, List.map_append]
        · by_cases z : c = g
          · rw [z, upd_same] at e; cases e
          · rw [upd_ne z] at e; exact fr c e
    · obtain ⟨v5, rfl, f, hg3, fr⟩ := hI
      rw [List.length_map, R.1, List.take_length] at hg3
      have es : Kqv5.step (some h) (.plan n) = (some h, .some_ (Kqv5.plan h n).length (Kqv5.nats (Kqv5.plan h n).flatten)) := by
        unfold Kqv5.step; simp only; rw [if_neg (by omega)]
      have sm : Same H1 H3 := f
      have gP : H g = none := sT.free hg fun z => by
        obtain ⟨ps, q', _⟩ := ht1
        rw [z, q'] at hg; cases hg
      refine ⟨_, rfl, post H3 r g ?_ Grow.refl ((keepT_of sT ht1).trans Grow.refl (same_keep sm).toT) (ht1.same sm) gP ?_⟩
      · rw [es]; exact ⟨W1.same sm, wfh⟩
      · rw [hg3, es]; rfl
def sp_reply_least (T : Txt K mg) : Sp := fun vs H Q _ => ∃ (wk p : Addr) (r : Rep) (h : Hall) (n : Nat), vs = [.ref wk, .ref p] ∧ WA T H wk r true h ∧ M.Wf h ∧ TabAt T H ∧ H p = some (.lst (vn [n])) ∧ PostT T wk r H Q (some h) (.least n)
theorem zipR1 {qs : List Addr} {ts : List (List Nat)} (R : Rows H qs ts) : (qs.zip ts).map (fun p => V.ref p.1) = qs.map V.ref := by
  have e : (qs.zip ts).map (fun p => V.ref p.1) = ((qs.zip ts).map Prod.fst).map V.ref := by rw [List.map_map]; rfl
  rw [e, List.map_fst_zip (by rw [R.1]; exact Nat.le_refl _)]
theorem zipR2 {qs : List Addr} {ts : List (List Nat)} (R : Rows H qs ts) : (qs.zip ts).map Prod.snd = ts := List.map_snd_zip (by rw [R.1]; exact Nat.le_refl _)
theorem plan_valid {n : Nat} {t : List Nat} (ht : t ∈ Kqv5.plan h n) : ∀ i ∈ t, i < h.blades.length := fun i hi => by
  obtain ⟨b, q, _⟩ := M.free_iff.mp (M.plan_mem (List.mem_flatten.mpr ⟨t, ht, hi⟩)).1
  exact (List.getElem?_eq_some_iff.mp q).1
theorem ok_reply_least (T : Txt K mg) (hB : BMain mg base) : FnOk P w K mg base CX0 6 T.f_reply_least T.fd_reply_least ["works", "numbers"] (sp_reply_least T) := by
  refine T.F_reply_least.ok sc_reply_least (fun vs H Q E h => ?_) (fun cdv A outer s H vs Q E hr h => ?_)
  · obtain ⟨wk, p, r, h, n, rfl, _⟩ := h
    rfl
  · obtain ⟨wk, p, r, h, n, rfl, W, wfh, ht, hp, post⟩ := h
    refine ⟨_, (pss_cons (ps_set (i := 2) sc_reply_least.nd rfl (by first | exact Or.inl rfl | exact Or.inr rfl) (pe_ix ix_list (pv 1) (pe_int) (fun _ _ => rfl)))
      (pss_cons (ps_if (pt_cmpR op_gt (pv 2) (pe_glob (v := V.int 3) (by rfl) T.mg_GREATEST_KIND ⟨_, rfl⟩) (nomark _)) (pss_one (ps_ret (pe_lst (pa_cons (pe_glob (v := V.int (-22)) (by rfl) T.mg_WRONG ⟨_, rfl⟩) pa_nil)))) (pss_nil))
      (pss_one (ps_ret (pe_lst (pa_cons (pe_callB (cr_sum rfl) (by rfl) T.no_sum boot_sumB (pa_cons (pe_lc (own := [("trio", 3)]) (g := (gName 3)) (tt := tYes) (te := (tCall (sp_shortfall T) [] E0 (tCons (tMeth T.C_Works "pulls" (sp_Works_pulls T) [] E0 (tVar 0) (tCons (tVar 3) tNil)) tNil))) rfl sc_reply_least.nd (pi_list (pe_meth (pv 0) T.cl_Works T.m_Works_plan (ok_Works_plan T hB) (hr.mono (by decide)) T.b_Works_plan .nil pass0 (pa_cons (pv 2) pa_nil))) (blkOk_by (show blkC ["works", "numbers", "kind", "trio"] (defScope s_reply_least) _ [("trio", 3)] = true by decide +kernel)) (fun _ _ _ _ _ => by exact (pg_name (i := 3) sc_reply_least.nd rfl (by first | exact Or.inl rfl | exact Or.inr rfl))) (fun _ _ _ _ _ => by exact pts_nil) (fun _ _ _ _ _ => by exact pe_call (ok_shortfall T) (hr.mono (by decide)) (by rfl) T.mg_shortfall T.F_shortfall.kp T.b_shortfall .nil pass0 (pa_cons (pe_meth (pv 0) T.cl_Works T.m_Works_pulls (ok_Works_pulls T) (hr.mono (by decide)) T.b_Works_pulls .nil pass0 (pa_cons (pv 3) pa_nil)) pa_nil))) pa_nil)) pa_nil)))))), ?_⟩
    have hl : SqL K H p (vn [n]) := SqL.of hp
    refine ⟨_, rfl, p, _, _, _, rfl, rfl, hl, atI_nat (j := 0) (vn_at rfl), ?_⟩
    refine ⟨_, rfl, _, _, rfl, rfl, _, rfl, ?_⟩
    refine ite_b (fun e => finT_same post ?_ ⟨W, wfh⟩ ht (Same.refl _)) (fun e => ?_)
    · have := of_decide_eq_true e
      unfold Kqv5.step; simp only; rw [if_pos (by omega)]
    have c1 := of_decide_eq_false e
    refine ⟨_, rfl, wk, _, _, rfl, W.ob, rfl, _, rfl, wk, r, true, h, n, rfl, W, wfh, ht, fun H1 q qs sT ht1 hq hq1 R hqs => ?_⟩
    have W1 := W.sameT ht sT
    have pl := M.plan_len h n
    have fl := M.free_len h n
    have bl := wfh.len
    have hz : SqL K H1 q ((qs.zip (Kqv5.plan h n)).map (fun p => V.ref p.1)) := SqL.of (by rw [zipR1 R]; exact hq1)
    refine ⟨q, rfl, ⟨_, hz⟩, fun D hD => lc_mapL (qs.zip (Kqv5.plan h n)) (fun p => V.ref p.1) (fun _ => true) (fun p => V.int ((Kqv5.sum ((p.2.map (Kqv5.full h)).map fun x => Kqv5.greatest (p.2.map (Kqv5.full h)) - x) : Nat) : Int)) hD hz (by rw [List.length_zip]; omega) (fun i z H2 Tr Fa hzi hs h1 h2 => ?_) (fun H2 s2 hD2 => ?_)⟩
    · refine ⟨rfl, iteT (B := Fa H2) ?_⟩
      obtain ⟨a, t⟩ := z
      rw [List.getElem?_zip_eq_some] at hzi
      have ha := hs _ _ (R.2 i a t hzi.1 hzi.2)
      have tm : t ∈ Kqv5.plan h n := List.mem_of_getElem? hzi.2
      have t3 := M.plan_three tm
      have W2 := W1.same hs
      refine ⟨_, rfl, wk, _, _, rfl, W2.ob, rfl, _, rfl, wk, a, r, true, h, t, rfl, W2, ha, by omega, plan_valid tm, fun H3 q3 s3 hq3 hq3' => ?_⟩
      refine ⟨q3, t.map (Kqv5.full h), rfl, hq3', fun z => ?_, by rw [List.length_map]; omega, fun H4 s4 => h1 rfl H4 (s3.trans s4)⟩
      have := congrArg List.length z
      rw [List.length_map, t3] at this
      cases this
    · have e2 : ((qs.zip (Kqv5.plan h n)).filter fun _ => true).map (fun p => V.int ((Kqv5.sum ((p.2.map (Kqv5.full h)).map fun x => Kqv5.greatest (p.2.map (Kqv5.full h)) - x) : Nat) : Int)) = vn ((Kqv5.plan h n).map fun t => Kqv5.sum ((t.map (Kqv5.full h)).map fun x => Kqv5.greatest (t.map (Kqv5.full h)) - x)) := by
        rw [show (qs.zip (Kqv5.plan h n)).filter (fun _ => true) = qs.zip (Kqv5.plan h n) from by simp, vn_map, List.map_map]
        conv => rhs; rw [← zipR2 R, List.map_map]
        rfl
      rw [e2] at hD2
      refine ⟨D, _, rfl, SqL.of hD2, ?_⟩
      rw [nats_sum]
      refine finT_num post (s' := some h) ?_ ⟨W1.same s2, wfh⟩ Grow.refl ((keepT_of sT ht1).trans Grow.refl (same_keep s2).toT) (ht1.same s2)
      unfold Kqv5.step; simp only; rw [if_neg (by omega)]; rfl
def sp_reply_follow (T : Txt K mg) : Sp := fun vs H Q _ => ∃ (wk p : Addr) (r : Rep) (h : Hall) (n : Nat), vs = [.ref wk, .ref p] ∧ WA T H wk r true h ∧ M.Wf h ∧ TabAt T H ∧ H p = some (.lst (vn [n])) ∧ PostT T wk r H Q (some h) (.follow n)
theorem foldl_len : ∀ (ts : List (List Nat)) (h : Hall), (ts.foldl Kqv5.matched h).blades.length = h.blades.length
  | [], _ => rfl
  | t :: ts, h => by rw [List.foldl_cons, foldl_len ts, M.matched_len]
theorem followed_wf (wf_ : M.Wf h) (n i : Nat) : M.Wf (((Kqv5.plan h n).take i).foldl Kqv5.matched h) := by
  have sub : ∀ x ∈ ((Kqv5.plan h n).take i).flatten, x ∈ (Kqv5.plan h n).flatten := fun x hx => by
    conv => rw [← List.take_append_drop i (Kqv5.plan h n), List.flatten_append]
    exact List.mem_append_left _ hx
  refine M.Wf.followed _ (k := n) wf_ (fun t ht => M.plan_three (List.mem_of_mem_take ht)) ?_ fun x hx => M.plan_mem (sub x hx)
  have := M.plan_nodup h n
  rw [← List.take_append_drop i (Kqv5.plan h n), List.flatten_append] at this
  exact (List.nodup_append.mp this).1
theorem ok_reply_follow (T : Txt K mg) (hB : BMain mg base) : FnOk P w K mg base CX0 7 T.f_reply_follow T.fd_reply_follow ["works", "numbers"] (sp_reply_follow T) := by
  refine T.F_reply_follow.ok sc_reply_follow (fun vs H Q E h => ?_) (fun cdv A outer s H vs Q E hr h => ?_)
  · obtain ⟨wk, p, r, h, n, rfl, _⟩ := h
    rfl
  · obtain ⟨wk, p, r, h, n, rfl, W, wfh, ht, hp, post⟩ := h
    refine ⟨_, (pss_cons (ps_set (i := 2) sc_reply_follow.nd rfl (by first | exact Or.inl rfl | exact Or.inr rfl) (pe_ix ix_list (pv 1) (pe_int) (fun _ _ => rfl)))
      (pss_cons (ps_if (pt_cmpR op_gt (pv 2) (pe_glob (v := V.int 3) (by rfl) T.mg_GREATEST_KIND ⟨_, rfl⟩) (nomark _)) (pss_one (ps_ret (pe_lst (pa_cons (pe_glob (v := V.int (-22)) (by rfl) T.mg_WRONG ⟨_, rfl⟩) pa_nil)))) (pss_nil))
      (pss_cons (ps_set (i := 3) sc_reply_follow.nd rfl (by first | exact Or.inl rfl | exact Or.inr rfl) (pe_meth (pv 0) T.cl_Works T.m_Works_plan (ok_Works_plan T hB) (hr.mono (by decide)) T.b_Works_plan .nil pass0 (pa_cons (pv 2) pa_nil)))
      (pss_cons (ps_if (pt_not (pt_val (pe_callB (cr_all rfl) (by rfl) T.no_all boot_allB (pa_cons (pe_lc (own := [("trio", 4)]) (g := (gName 4)) (tt := tYes) (te := (tMeth T.C_Works "may_be_set" (sp_Works_may_be_set T) [] E0 (tVar 0) (tCons (tVar 4) tNil))) rfl sc_reply_follow.nd (pi_list (pv 3)) (blkOk_by (show blkC ["works", "numbers", "kind", "plan", "trio"] (defScope s_reply_follow) _ [("trio", 4)] = true by decide +kernel)) (fun _ _ _ _ _ => by exact (pg_name (i := 4) sc_reply_follow.nd rfl (by first | exact Or.inl rfl | exact Or.inr rfl))) (fun _ _ _ _ _ => by exact pts_nil) (fun _ _ _ _ _ => by exact pe_meth (pv 0) T.cl_Works T.m_Works_may_be_set (ok_Works_may_be_set T) (hr.mono (by decide)) T.b_Works_may_be_set .nil pass0 (pa_cons (pv 4) pa_nil))) pa_nil)))) (pss_one (ps_ret (pe_lst (pa_cons (pe_glob (v := V.int (-62)) (by rfl) T.mg_TOO_MUCH ⟨_, rfl⟩) pa_nil)))) (pss_nil))
      (pss_cons (ps_for PassesOwn.never rfl (pi_list (pv 3)) (pg_name (i := 4) sc_reply_follow.nd rfl (by first | exact Or.inl rfl | exact Or.inr rfl)) (pss_one (ps_expr (pe_meth (pv 0) T.cl_Works T.m_Works_bind (ok_Works_bind T) (hr.mono (by decide)) T.b_Works_bind .nil pass0 (pa_cons (pv 4) pa_nil)))))
      (pss_one (ps_ret (pe_lst (pa_cons (pe_callB call_len_seq (by rfl) T.no_len PySem.boot_len (pa_cons (pv 3) pa_nil)) pa_nil))))))))), ?_⟩
    have hl : SqL K H p (vn [n]) := SqL.of hp
    refine ⟨_, rfl, p, _, _, _, rfl, rfl, hl, atI_nat (j := 0) (vn_at rfl), ?_⟩
    refine ⟨_, rfl, _, _, rfl, rfl, _, rfl, ?_⟩
    refine ite_b (fun e => finT_same post ?_ ⟨W, wfh⟩ ht (Same.refl _)) (fun e => ?_)
    · have := of_decide_eq_true e
      unfold Kqv5.step; simp only; rw [if_pos (by omega)]
    have c1 := of_decide_eq_false e
    refine ⟨_, rfl, wk, _, _, rfl, W.ob, rfl, _, rfl, wk, r, true, h, n, rfl, W, wfh, ht, fun H1 q qs sT ht1 hq hq1 R hqs => ?_⟩
    have W1 := W.sameT ht sT
    have pl := M.plan_len h n
    have fl := M.free_len h n
    have bl := wfh.len
    have hz : SqL K H1 q ((qs.zip (Kqv5.plan h n)).map (fun p => V.ref p.1)) := SqL.of (by rw [zipR1 R]; exact hq1)
    refine ⟨_, rfl, q, rfl, ⟨_, hz⟩, fun D hD => lc_mapL (qs.zip (Kqv5.plan h n)) (fun p => V.ref p.1) (fun _ => true) (fun p => V.bl (Kqv5.may h p.2)) hD hz (by rw [List.length_zip]; omega) (fun i z H2 Tr Fa hzi hs h1 h2 => ?_) (fun H2 s2 hD2 => ?_)⟩
    · refine ⟨rfl, iteT (B := Fa H2) ?_⟩
      obtain ⟨a, t⟩ := z
      rw [List.getElem?_zip_eq_some] at hzi
      have ha := hs _ _ (R.2 i a t hzi.1 hzi.2)
      have tm : t ∈ Kqv5.plan h n := List.mem_of_getElem? hzi.2
      have t3 := M.plan_three tm
      have W2 := W1.same hs
      refine ⟨_, rfl, wk, _, _, rfl, W2.ob, rfl, _, rfl, wk, a, r, true, h, t, rfl, W2, wfh, ha, fun z => ?_, by omega, plan_valid tm, fun H4 s4 => h1 rfl H4 s4⟩
      rw [z] at t3; cases t3
    have e2 : ((qs.zip (Kqv5.plan h n)).filter fun _ => true).map (fun p => V.bl (Kqv5.may h p.2)) = ((Kqv5.plan h n).map (Kqv5.may h)).map V.bl := by
      rw [show (qs.zip (Kqv5.plan h n)).filter (fun _ => true) = qs.zip (Kqv5.plan h n) from by simp, List.map_map]
      conv => rhs; rw [← zipR2 R, List.map_map]
      rfl
    rw [e2] at hD2
    have W2 := W1.same s2
    have ht2 := ht1.same s2
    have kT : KeepT T wk r H H2 := (keepT_of sT ht1).trans Grow.refl (same_keep s2).toT
    refine ⟨D, (Kqv5.plan h n).map (Kqv5.may h), rfl, SqL.of hD2, _, rfl, ?_⟩
    have eall : ((Kqv5.plan h n).map (Kqv5.may h)).all id = (Kqv5.plan h n).all (Kqv5.may h) := by rw [List.all_map]; rfl
    rw [eall]
    refine ite_b (fun e3 => finT_num post (s' := some h) ?_ ⟨W2, wfh⟩ Grow.refl kT ht2) (fun e3 => ?_)
    · unfold Kqv5.step; simp only; rw [if_neg (by omega), if_pos (not_t e3)]
    have call := not_f e3
    have R2 := R.same s2
    have hq2 := s2 _ _ hq1
    have qn : ∀ {H3 : Hp} {r3 : Rep}, WA T H2 wk r3 true h → H2 q = some (.lst (qs.map V.ref)) → True := fun _ _ => trivial
    have outF : ∀ {c : Addr}, H c = none → ¬ inF wk r c := fun {c} hc z => by
      obtain ⟨o, q', _⟩ := W.kinds z
      rw [hc] at q'; cases q'
    refine ⟨_, rfl, q, rfl, ⟨_, SqL.of hq2⟩, for_list (K := K) (a := q) (xs := qs.map V.ref)
      (fun i σ H3 => ∃ v4 r3, σ = [some (.ref wk), some (.ref p), some (.int (n : Nat)), some (.ref q), v4] ∧ WA T H3 wk r3 true (((Kqv5.plan h n).take i).foldl Kqv5.matched h) ∧ Grow wk H2 r r3 ∧ Keep wk r H2 H3)
      ⟨_, r, rfl, W2, Grow.refl, same_keep (Same.refl _)⟩ (fun i σ H3 _ hI => ?_) (fun i x σ H3 hx hI => ?_) (fun σ H3 hI => ?_)⟩
    · obtain ⟨_, _, _, _, _, k3⟩ := hI
      exact SqL.of (k3.k _ _ hq2 (outF hq))
    · obtain ⟨v4, r3, rfl, W3, g3, k3⟩ := hI
      rw [List.getElem?_map] at hx
      obtain ⟨a, ha, rfl⟩ := Option.map_eq_some_iff.mp hx
      obtain ⟨t, ht', hat⟩ := R2.get ha
      have tm : t ∈ Kqv5.plan h n := List.mem_of_getElem? ht'
      have t3 := M.plan_three tm
      have ha3 := k3.k _ _ hat (outF (hqs a (List.mem_of_getElem? ha)))
      have ndt : t.Nodup := by
        have := M.plan_nodup h n
        obtain ⟨l1, l2, e⟩ := List.append_of_mem tm
        rw [e, List.flatten_append, List.flatten_cons] at this
        exact (List.nodup_append.mp (List.nodup_append.mp this).2.1).1
      refine ⟨_, rfl, wk, _, _, rfl, W3.ob, rfl, _, rfl, wk, a, r3, true, _, t, rfl, W3, followed_wf wfh n i, ha3, (fun z => by rw [z] at t3; cases t3), ndt, by omega, fun j hj => by rw [foldl_len]; exact plan_valid tm j hj, fun H4 r4 W4 g4 k4 => ?_⟩
      refine ⟨_, r4, rfl, ?_, g3.trans g4 k3.d, k3.trans g3 k4⟩
      rw [take_snoc ht', List.foldl_append]
      exact W4
    · obtain ⟨v4, r3, rfl, W3, g3, k3⟩ := hI
      have wf3 := followed_wf wfh n (qs.map V.ref).length
      rw [List.length_map, R.1, List.take_length] at W3 wf3
      have hq3 := k3.k _ _ hq2 (outF hq)
      refine ⟨_, rfl, q, _, rfl, .inl (SqL.of hq3), ?_⟩
      have el : (qs.map V.ref).length = (Kqv5.plan h n).length := by rw [List.length_map, R.1]
      rw [el]
      refine finT_num post (s' := some ((Kqv5.plan h n).foldl Kqv5.matched h)) ?_ ⟨W3, wf3⟩ (fun c hc => (g3 c hc).imp id fun z => kT.d c z) (kT.trans Grow.refl k3.toT) (ht2.keep W2 k3)
      unfold Kqv5.step; simp only; rw [if_neg (by omega), if_neg (by rw [call]; decide)]
end
end B
namespace B
open PySem PySem.Spec PyProof.Rows L2
open Kqv5 (Hall)
section
variable {P : Program} {w : World} {K : PySem.W.Frag} {mg : Str → Option Value} {base : Heap}
variable {T : Txt K mg} {H H' : Hp} {wk : Addr} {r : Rep} {st : Bool} {h : Hall}
theorem not_begun {c : Nat} {ns : List Nat} {cl : Kqv5.Call} (h : M.IsCall c ns cl) (hc : c ≠ 0) : Kqv5.step none cl = (none, .num (-11)) := by
  cases h <;> first | rfl | exact absurd rfl hc
def sp_reply_to (T : Txt K mg) : Sp := fun vs H Q _ => ∃ (wk p : Addr) (r : Rep) (s : Option Hall) (c : Nat) (ns : List Nat) (cl : Kqv5.Call), vs = [.ref wk, .int (c : Nat), .ref p] ∧ WAo T H wk r s ∧ TabAt T H ∧ H p = some (.lst (vn ns)) ∧ M.IsCall c ns cl ∧ PostT T wk r H Q s cl
theorem ok_reply_to (T : Txt K mg) (hB : BMain mg base) : FnOk P w K mg base CX0 8 T.f_reply_to T.fd_reply_to ["works", "call", "numbers"] (sp_reply_to T) := by
  refine T.F_reply_to.ok sc_reply_to (fun vs H Q E h => ?_) (fun cdv A outer s H vs Q E hr h => ?_)
  · obtain ⟨wk, p, r, so, c, ns, cl, rfl, _⟩ := h
    rfl
  · obtain ⟨wk, p, r, so, c, ns, cl, rfl, W, ht, hp, hic, post⟩ := h
    refine ⟨_, (pss_cons (ps_if (PW.pt (pw_and (pt_cmpR op_ne (pv 1) (pe_glob (v := V.int 0) (by rfl) T.mg_START ⟨_, rfl⟩) (nomark _)) (pw_and1 (pt_not (pt_val (pe_fld (pv 0) rfl)))))) (pss_one (ps_ret (pe_lst (pa_cons (pe_glob (v := V.int (-11)) (by rfl) T.mg_NOT_STARTED ⟨_, rfl⟩) pa_nil)))) (pss_nil))
      (pss_one (ps_ret (pe_callE (pe_ix ix_gdict (pe_glob (v := V.ref T.a_REPLIES) (by rfl) T.mg_REPLIES rfl) (pv 1) (fun _ _ => rfl)) pass0 (pa_cons (pv 0) (pa_cons (pv 2) pa_nil)))))), ?_⟩
    refine ⟨_, rfl, rfl, _, rfl, ?_⟩
    cases so with
    | none =>
      refine ite_b (fun e => ?_) (fun e => ?_)
      · have hc0 : c ≠ 0 := fun z => by subst z; exact absurd e (by decide)
        refine ⟨_, rfl, wk, _, _, _, _, rfl, WA.ob W, T.cl_Works, T.na_Works_started, rfl, _, rfl, ?_⟩
        exact iteT (finT_same post (not_begun hic hc0) W ht (Same.refl _))
      · have hc0 : c = 0 := by
          have := not_f e
          have := of_decide_eq_true this
          injection this with this; omega
        subst hc0
        cases hic
        refine iteF ?_
        exact ⟨_, rfl, T.a_REPLIES, _, _, rfl, rfl, T.gd_REPLIES_0, _, _, _, _, _, rfl, ok_reply_start T, hr.mono (by decide), T.F_reply_start.kp, T.b_reply_start, _, rfl, _, rfl, wk, p, r, none, _, _, rfl, W, hp, post.post W ht⟩
    | some h =>
      have key : tRet (tCallE (cxOf CX0 P w K mg base ["works", "call", "numbers"] "reply_to" (defScope s_reply_to) T.f_reply_to cdv A outer s H E).nox CX0 E0 (tOp (fun x y H Q => ∃ p k v, x = .ref p ∧ y = .int k ∧ GDict K p k v ∧ Q v H) (tC (V.ref T.a_REPLIES)) (tVar 1)) (tCons (tVar 0) (tCons (tVar 2) tNil))) { nx := fun _ H' => Q .non H', rt := Q } [some (.ref wk), some (.int (c : Nat)), some (.ref p)] H := by
        cases hic
        case start => exact ⟨_, rfl, T.a_REPLIES, _, _, rfl, rfl, T.gd_REPLIES_0, _, _, _, _, _, rfl, ok_reply_start T, hr.mono (by decide), T.F_reply_start.kp, T.b_reply_start, _, rfl, _, rfl, wk, p, r, some h, _, _, rfl, W, hp, post.post W ht⟩
        case blade => exact ⟨_, rfl, T.a_REPLIES, _, _, rfl, rfl, T.gd_REPLIES_1, _, _, _, _, _, rfl, ok_reply_blade T, hr.mono (by decide), T.F_reply_blade.kp, T.b_reply_blade, _, rfl, _, rfl, wk, p, r, h, _, _, rfl, W.1, W.2, hp, post.post W ht⟩
        case weigh => exact ⟨_, rfl, T.a_REPLIES, _, _, rfl, rfl, T.gd_REPLIES_2, _, _, _, _, _, rfl, ok_reply_weigh T, hr.mono (by decide), T.F_reply_weigh.kp, T.b_reply_weigh, _, rfl, _, rfl, wk, p, r, h, _, _, rfl, W.1, W.2, hp, post.post W ht⟩
        case scrap => exact ⟨_, rfl, T.a_REPLIES, _, _, rfl, rfl, T.gd_REPLIES_3, _, _, _, _, _, rfl, ok_reply_scrap T, hr.mono (by decide), T.F_reply_scrap.kp, T.b_reply_scrap, _, rfl, _, rfl, wk, p, r, h, _, rfl, W.1, W.2, hp, post.post W ht⟩
        case needs => exact ⟨_, rfl, T.a_REPLIES, _, _, rfl, rfl, T.gd_REPLIES_4, _, _, _, _, _, rfl, ok_reply_needs T, hr.mono (by decide), T.F_reply_needs.kp, T.b_reply_needs, _, rfl, _, rfl, wk, p, r, h, _, _, _, rfl, W.1, W.2, hp, post.post W ht⟩
        case off => exact ⟨_, rfl, T.a_REPLIES, _, _, rfl, rfl, T.gd_REPLIES_5, _, _, _, _, _, rfl, ok_reply_off T, hr.mono (by decide), T.F_reply_off.kp, T.b_reply_off, _, rfl, _, rfl, wk, p, r, h, _, _, _, rfl, W.1, W.2, hp, post.post W ht⟩
        case match_ => exact ⟨_, rfl, T.a_REPLIES, _, _, rfl, rfl, T.gd_REPLIES_6, _, _, _, _, _, rfl, ok_reply_match T, hr.mono (by decide), T.F_reply_match.kp, T.b_reply_match, _, rfl, _, rfl, wk, p, r, h, _, _, _, rfl, W.1, W.2, hp, post.post W ht⟩
        case set => exact ⟨_, rfl, T.a_REPLIES, _, _, rfl, rfl, T.gd_REPLIES_7, _, _, _, _, _, rfl, ok_reply_set T, hr.mono (by decide), T.F_reply_set.kp, T.b_reply_set, _, rfl, _, rfl, wk, p, r, h, _, rfl, W.1, W.2, hp, post.post W ht⟩
        case part => exact ⟨_, rfl, T.a_REPLIES, _, _, rfl, rfl, T.gd_REPLIES_8, _, _, _, _, _, rfl, ok_reply_part T, hr.mono (by decide), T.F_reply_part.kp, T.b_reply_part, _, rfl, _, rfl, wk, p, r, h, _, rfl, W.1, W.2, hp, post.post W ht⟩
        case third => exact ⟨_, rfl, T.a_REPLIES, _, _, rfl, rfl, T.gd_REPLIES_9, _, _, _, _, _, rfl, ok_reply_third T, hr.mono (by decide), T.F_reply_third.kp, T.b_reply_third, _, rfl, _, rfl, wk, p, r, h, _, _, rfl, W.1, W.2, hp, post.post W ht⟩
        case spare => exact ⟨_, rfl, T.a_REPLIES, _, _, rfl, rfl, T.gd_REPLIES_10, _, _, _, _, _, rfl, ok_reply_spare T, hr.mono (by decide), T.F_reply_spare.kp, T.b_reply_spare, _, rfl, _, rfl, wk, p, r, h, _, _, rfl, W.1, W.2, hp, post.post W ht⟩
        case exchange => exact ⟨_, rfl, T.a_REPLIES, _, _, rfl, rfl, T.gd_REPLIES_11, _, _, _, _, _, rfl, ok_reply_exchange T, hr.mono (by decide), T.F_reply_exchange.kp, T.b_reply_exchange, _, rfl, _, rfl, wk, p, r, h, _, _, _, rfl, W.1, W.2, hp, post.post W ht⟩
        case plan => exact ⟨_, rfl, T.a_REPLIES, _, _, rfl, rfl, T.gd_REPLIES_12, _, _, _, _, _, rfl, ok_reply_plan T hB, hr.mono (by decide), T.F_reply_plan.kp, T.b_reply_plan, _, rfl, _, rfl, wk, p, r, h, _, rfl, W.1, W.2, ht, hp, post⟩
        case least => exact ⟨_, rfl, T.a_REPLIES, _, _, rfl, rfl, T.gd_REPLIES_13, _, _, _, _, _, rfl, ok_reply_least T hB, hr.mono (by decide), T.F_reply_least.kp, T.b_reply_least, _, rfl, _, rfl, wk, p, r, h, _, rfl, W.1, W.2, ht, hp, post⟩
        case follow => exact ⟨_, rfl, T.a_REPLIES, _, _, rfl, rfl, T.gd_REPLIES_14, _, _, _, _, _, rfl, ok_reply_follow T hB, hr.mono (by decide), T.F_reply_follow.kp, T.b_reply_follow, _, rfl, _, rfl, wk, p, r, h, _, rfl, W.1, W.2, ht, hp, post⟩
        case add => exact ⟨_, rfl, T.a_REPLIES, _, _, rfl, rfl, T.gd_REPLIES_15, _, _, _, _, _, rfl, ok_reply_add T, hr.mono (by decide), T.F_reply_add.kp, T.b_reply_add, _, rfl, _, rfl, wk, p, r, h, _, _, rfl, W.1, W.2, hp, post.post W ht⟩
        case balanced => exact ⟨_, rfl, T.a_REPLIES, _, _, rfl, rfl, T.gd_REPLIES_16, _, _, _, _, _, rfl, ok_reply_balanced T, hr.mono (by decide), T.F_reply_balanced.kp, T.b_reply_balanced, _, rfl, _, rfl, wk, p, r, h, _, rfl, W.1, W.2, hp, post.post W ht⟩
        case ship => exact ⟨_, rfl, T.a_REPLIES, _, _, rfl, rfl, T.gd_REPLIES_17, _, _, _, _, _, rfl, ok_reply_ship T, hr.mono (by decide), T.F_reply_ship.kp, T.b_reply_ship, _, rfl, _, rfl, wk, p, r, h, _, rfl, W.1, W.2, hp, post.post W ht⟩
        case free => exact ⟨_, rfl, T.a_REPLIES, _, _, rfl, rfl, T.gd_REPLIES_18, _, _, _, _, _, rfl, ok_reply_free T, hr.mono (by decide), T.F_reply_free.kp, T.b_reply_free, _, rfl, _, rfl, wk, p, r, h, _, rfl, W.1, W.2, hp, post.post W ht⟩
        case look => exact ⟨_, rfl, T.a_REPLIES, _, _, rfl, rfl, T.gd_REPLIES_19, _, _, _, _, _, rfl, ok_reply_look T, hr.mono (by decide), T.F_reply_look.kp, T.b_reply_look, _, rfl, _, rfl, wk, p, r, h, _, rfl, W.1, W.2, hp, post.post W ht⟩
        case sums => exact ⟨_, rfl, T.a_REPLIES, _, _, rfl, rfl, T.gd_REPLIES_20, _, _, _, _, _, rfl, ok_reply_sums T, hr.mono (by decide), T.F_reply_sums.kp, T.b_reply_sums, _, rfl, _, rfl, wk, p, r, h, rfl, W.1, W.2, post.post W ht⟩
        case state => exact ⟨_, rfl, T.a_REPLIES, _, _, rfl, rfl, T.gd_REPLIES_21, _, _, _, _, _, rfl, ok_reply_state T, hr.mono (by decide), T.F_reply_state.kp, T.b_reply_state, _, rfl, _, rfl, wk, p, r, h, rfl, W.1, W.2, post.post W ht⟩
      refine ite_b (fun e => ?_) (fun e => ?_)
      · refine ⟨_, rfl, wk, _, _, _, _, rfl, W.1.ob, T.cl_Works, T.na_Works_started, rfl, _, rfl, ?_⟩
        exact iteF key
      · exact iteF key
end
end B
namespace B
open PySem PySem.Spec PyProof.Rows L2
open Kqv5 (Hall)
section
variable {P : Program} {w : World} {K : PySem.W.Frag} {mg : Str → Option Value} {base : Heap}
variable {T : Txt K mg} {H H' : Hp} {wk : Addr} {r : Rep} {st : Bool} {h : Hall}
theorem WAo.frame {s : Option Hall} (W : WAo T H wk r s) (f : ∀ c o, inF wk r c → H c = some o → H' c = some o) : WAo T H' wk r s := by
  cases s with
  | none => exact WA.frame W f
  | some h => exact ⟨W.1.frame f, W.2⟩
def sp_answers (T : Txt K mg) : Sp := fun vs H Q _ => ∃ (a : Addr) (ns : List Int), vs = [.ref a] ∧ TabAt T H ∧ SqL K H a (ns.map V.int) ∧ ns.length ≤ 800 ∧ (∀ x ∈ ns, 0 ≤ x ∧ x ≤ 4294967295) ∧ PyKqv5.answers_asked ns = true ∧ ∀ (H' : Hp) (p : Addr), H' p = some (.lst ((PyKqv5.answers ns).map V.int)) → Q (.ref p) H'
theorem sq_sameT {a : Addr} {xs : List V} (hs : SqL K H a xs) (t : TabAt T H) (sm : SameT T.P_Works_plan H H') : SqL K H' a xs := by
  obtain ⟨ps, hP, _⟩ := t
  rcases hs with (q | ⟨o, q⟩) | q
  · exact .inl (.inl (sm _ _ q (ne_of q hP (by intro z; cases z))))
  · exact .inl (.inr ⟨o, sm _ _ q (ne_of q hP (by intro z; cases z))⟩)
  · exact .inr q
theorem TabAt.upd_lst {g : Addr} {xs ys : List V} (t : TabAt T H) (e : H g = some (.lst xs)) : TabAt T (upd H g (.lst ys)) := by
  obtain ⟨ps, h1, h2⟩ := t
  refine ⟨ps, by rw [upd_ne (ne_of h1 e (by intro z; cases z))]; exact h1, ?_⟩
  rcases h2 with z | ⟨c, z, q⟩
  · exact .inl z
  · exact .inr ⟨c, z, by rw [upd_ne (ne_of q e (by intro z; cases z))]; exact q⟩
theorem ok_answers (T : Txt K mg) (hB : BMain mg base) : FnOk P w K mg base CX0 9 T.f_answers T.fd_answers ["calls"] (sp_answers T) := by
  refine T.F_answers.ok sc_answers (fun vs H Q E h => ?_) (fun cdv A outer s H vs Q E hr h => ?_)
  · obtain ⟨a, ns, rfl, _⟩ := h
    rfl
  · obtain ⟨a, ns, rfl, ht, hS, hlen, hrange, hask, k⟩ := h
    refine ⟨_, (pss_cons (ps_set (i := 1) sc_answers.nd rfl (by first | exact Or.inl rfl | exact Or.inr rfl) (pe_make0 T.mk_Works (ok_Works_init T) (hr.mono (by decide)) (by rfl) T.mg_Works T.b_Works_init .nil pass0))
      (pss_cons (ps_set (i := 2) sc_answers.nd rfl (by first | exact Or.inl rfl | exact Or.inr rfl) (pe_lst (pa_nil)))
      (pss_cons (ps_set (i := 3) sc_answers.nd rfl (by first | exact Or.inl rfl | exact Or.inr rfl) (pe_int))
      (pss_cons (ps_while PassesOwn.never (pt_cmpR op_lt (pv 3) (pe_callB call_len_seq (by rfl) T.no_len PySem.boot_len (pa_cons (pv 0) pa_nil)) (nomark _)) (pss_cons (ps_set (i := 4) sc_answers.nd rfl (by first | exact Or.inl rfl | exact Or.inr rfl) (pe_op op_add (pe_op op_add (pv 3) (pe_int)) (pe_ix ix_tup (pe_glob (v := V.ref T.a_COUNTS) (by rfl) T.mg_COUNTS rfl) (pe_ix ix_list (pv 0) (pv 3) (fun _ _ => rfl)) (fun _ _ => rfl))))
      (pss_cons (ps_set (i := 5) sc_answers.nd rfl (by first | exact Or.inl rfl | exact Or.inr rfl) (pe_call (ok_reply_to T hB) (hr.mono (by decide)) (by rfl) T.mg_reply_to T.F_reply_to.kp T.b_reply_to .nil pass0 (pa_cons (pv 1) (pa_cons (pe_ix ix_list (pv 0) (pv 3) (fun _ _ => rfl)) (pa_cons (pe_slice sl_list (pv 0) (po_some (pe_op op_add (pv 3) (pe_int))) (po_some (pv 4))) pa_nil)))))
      (pss_cons (ps_expr (pe_bm PySem.F.plainAttrs_list PySem.F.slot_list_append PySem.F.type_list_append mt_append (pv 2) (pa_cons (pe_callB call_len_seq (by rfl) T.no_len PySem.boot_len (pa_cons (pv 5) pa_nil)) pa_nil)))
      (pss_cons (ps_expr (pe_bm PySem.F.plainAttrs_list PySem.F.slot_list_extend PySem.F.type_list_extend mt_extend (pv 2) (pa_cons (pv 5) pa_nil)))
      (pss_one (ps_set (i := 3) sc_answers.nd rfl (by first | exact Or.inl rfl | exact Or.inr rfl) (pv 4))))))))
      (pss_one (ps_ret (pv 2))))))), ?_⟩
    obtain ⟨raw, hraw, hshort⟩ := M.asked_raw hask
    obtain ⟨ms, rfl⟩ := M.nats_of hrange
    have hml : ms.length ≤ 800 := by rw [nats_len] at hlen; exact hlen
    -- works = Works(); given = []; at = 0
    intro x dx hx hdx ndx
    refine ⟨x, dx, rfl, upd_same, fun H1 lb dt W1 hlb hdt kp1 => ⟨rfl, ?_⟩⟩
    have s1 : Same H H1 := Same.made hx hdx kp1
    refine ⟨Nat.zero_le _, fun g hg => ?_⟩
    have s2 : Same H1 (upd H1 g (.lst [])) := fun b u e => by rw [upd_ne (ne_of_none e hg)]; exact e
    have up : ∀ {c : Addr} {y z : HO}, (upd (upd H dx (.own x)) x (.ins T.C_Works dx [])) c = none → H c = none := fun {c} _ _ e => by
      by_cases c1 : c = x
      · rw [c1]; exact hx
      · by_cases c2 : c = dx
        · rw [c2]; exact hdx
        · rw [upd_ne c1, upd_ne c2] at e; exact e
    refine while_by (fun σ H' => ∃ (at_ : Nat) (so : Option Hall) (r : Rep) (gs : List Int) (f : Nat) (raw' : List (List (List Int))) (v4 v5 : Option V), σ = [some (.ref a), some (.ref x), some (.ref g), some (.int (at_ : Nat)), v4, v5] ∧
        at_ ≤ ms.length ∧ PyFlat.calls PyKqv5.shape f ((Kqv5.nats ms).drop at_) = some raw' ∧ PyKqv5.answers (Kqv5.nats ms) = gs ++ M.rest so raw' ∧ WAo T H' x r so ∧ SameT T.P_Works_plan H H' ∧ TabAt T H' ∧ (∀ c, inF x r c → H c = none) ∧ H' g = some (.lst (gs.map V.int)) ∧ H g = none ∧ ¬ inF x r g)
      (fun σ _ => match σ with | [_, _, _, some (.int n), _, _] => ms.length - n.toNat | _ => 0) ?_ ?_ ?_
    · refine ⟨0, none, ⟨dx, lb, dt, [], []⟩, [], _, raw, _, _, rfl, Nat.zero_le _, hraw, ?_, W1.same s2, (s1.trans s2).toT, ht.same (s1.trans s2), ?_, upd_same, s1.free hg, ?_⟩
      · rw [M.answers_rest hraw]; rfl
      · rintro c (z | z | z | z | z)
        · rw [z]; exact hx
        · rw [z]; exact up (y := .lst []) (z := .lst []) hlb
        · rw [z]; exact up (y := .lst []) (z := .lst []) hdt
        · exact absurd z (by simp)
        · exact absurd z (by simp)
      · rintro (z | z | z | z | z)
        · rw [z, W1.ob] at hg; cases hg
        · rw [z, W1.lst] at hg; cases hg
        · rw [z, W1.dct] at hg; cases hg
        · exact absurd z (by simp)
        · exact absurd z (by simp)
    · rintro σ H2 ⟨at_, so, r, gs, f, raw', v4, v5, rfl, hat, hcalls, hans, W2, s02, ht2, hout, hg2, hg0, hgf⟩
      have hS2 : SqL K H2 a ((Kqv5.nats ms).map V.int) := sq_sameT hS ht s02
      have gnP : g ≠ T.P_Works_plan := fun z => by
        obtain ⟨_, q, _⟩ := ht
        rw [z, q] at hg0; cases hg0
      refine ⟨_, rfl, _, rfl, a, _, rfl, .inl hS2, _, _, rfl, rfl, _, rfl, ?_⟩
      refine ite_b (fun e => ?_) (fun e => ?_)
      · have lt := of_decide_eq_true e
        rw [List.length_map, nats_len] at lt
        have lt : at_ < ms.length := by omega
        rcases M.calls_cons hcalls with ⟨z, _⟩ | ⟨p, rr, n, f', raw2, hd, hsh, hn, hr2, hc2⟩
        · have := congrArg List.length z
          rw [List.length_drop, nats_len] at this
          simp at this
          omega
        -- the call's number and its numbers
        rw [M.nats_drop] at hd
        obtain ⟨c0, as0, hms⟩ : ∃ c0 as0, ms.drop at_ = c0 :: as0 := by
          cases q : ms.drop at_ with
          | nil => rw [q] at hd; cases hd
          | cons c0 as0 => exact ⟨c0, as0, rfl⟩
        rw [hms] at hd
        have hd : ((c0 : Nat) : Int) :: Kqv5.nats as0 = p :: rr := hd
        injection hd with hd1 hd2
        subst hd1
        subst hd2
        rw [nats_len] at hn
        have hm0 : ms[at_]? = some c0 := by
          have := congrArg List.head? hms
          rw [List.head?_drop] at this
          exact this
        have hlen0 : ms.length = at_ + 1 + as0.length := by
          have := congrArg List.length hms
          rw [List.length_drop, List.length_cons] at this
          omega
        obtain ⟨cl, hic, hco, hcn⟩ := M.isCall_of c0 n (as0.take n) hsh (by rw [List.length_take]; omega)
        have hitem : ((Kqv5.nats ms).map V.int)[at_]? = some (V.int ((c0 : Nat) : Int)) := by
          rw [List.getElem?_map]; unfold Kqv5.nats; rw [List.getElem?_map, hm0]; rfl
        -- behind = at + 1 + COUNTS[calls[at]]
        refine ⟨_, rfl, _, _, rfl, rfl, _, rfl, _, rfl, a, _, _, _, rfl, rfl, hS2, atI_nat hitem, T.a_COUNTS, _, _, _, rfl, rfl, T.sq_COUNTS H2, atI_nat (j := c0) (by rw [List.getElem?_map, hcn]; rfl), _, _, rfl, rfl, ?_⟩
        -- reply_to(works, calls[at], calls[at + 1:behind])
        refine ⟨_, rfl, _, rfl, _, rfl, a, _, _, _, rfl, rfl, hS2, atI_nat hitem, _, rfl, _, rfl, _, _, rfl, rfl, _, rfl, _, rfl, _, rfl, a, _, rfl, hS2, fun q hq => ?_⟩
        have ecut : cutV ((Kqv5.nats ms).map V.int) (some (((at_ : Nat) : Int) + 1)) (some (((at_ : Nat) : Int) + 1 + ((n : Nat) : Int))) = vn (as0.take n) := by
          have e1 : ((at_ : Nat) : Int) + 1 = ((at_ + 1 : Nat) : Int) := by omega
          have e2 : ((at_ + 1 : Nat) : Int) + ((n : Nat) : Int) = ((at_ + 1 + n : Nat) : Int) := by omega
          rw [e1, e2, cut_of (by omega) (by rw [List.length_map, nats_len]; omega), ← List.map_drop, M.nats_drop]
          have e3 : ms.drop (at_ + 1) = as0 := by
            have := congrArg List.tail hms
            rw [List.tail_drop] at this
            exact this
          rw [e3, ← List.map_take, M.nats_take, show at_ + 1 + n - (at_ + 1) = n by omega]
          rfl
        have s3 : Same H2 (upd H2 q (.lst (cutV ((Kqv5.nats ms).map V.int) (some (((at_ : Nat) : Int) + 1)) (some (((at_ : Nat) : Int) + 1 + ((n : Nat) : Int)))))) := fun b u e => by rw [upd_ne (ne_of_none e hq)]; exact e
        refine ⟨x, q, r, so, c0, as0.take n, cl, rfl, W2.same s3, ht2.same s3, by rw [upd_same, ecut], hic, fun H4 r4 q4 W4 g4 k4 ht4 hq4 hl4 => ?_⟩
        have erest : M.rest so raw' = (((Kqv5Neutral.tell (Kqv5.step so cl).2).length : Nat) : Int) :: (Kqv5Neutral.tell (Kqv5.step so cl).2 ++ M.rest (Kqv5.step so cl).1 raw2) := by
          rw [hr2, M.nats_take]
          exact M.rest_cons hco
        generalize hans1 : Kqv5Neutral.tell (Kqv5.step so cl).2 = ans at hl4 erest
        have hgs : gs.length + (1 + ans.length) ≤ 10000000 := by
          have : (PyKqv5.answers (Kqv5.nats ms)).length = gs.length + (M.rest so raw').length := by rw [hans, List.length_append]
          rw [erest, List.length_cons, List.length_append] at this
          omega
        have hg4 : H4 g = some (.lst (gs.map V.int)) := k4.k g _ (s3 _ _ hg2) hgf gnP
        have gq : q4 ≠ g := fun z => by rw [z, s3 _ _ hg2] at hq4; cases hq4
        have big : 10000000 < sizeLine := by decide
        -- given.append(len(reply))
        refine ⟨_, rfl, .inl ⟨rfl, _, SqL.of hg4⟩, _, rfl, q4, _, rfl, .inl (SqL.of hl4), g, _, _, rfl, rfl, hg4, by rw [List.length_map]; omega, ?_⟩
        -- given.extend(reply)
        refine ⟨_, rfl, .inl ⟨rfl, _, SqL.of upd_same⟩, _, rfl, g, q4, _, _, rfl, rfl, upd_same, by rw [upd_ne gq]; exact hl4, by rw [List.length_append, List.length_map, List.length_map, List.length_singleton]; omega, ?_⟩
        -- at = behind
        refine ⟨_, rfl, ?_, ?_⟩
        · have gf4 : ¬ inF x r4 g := fun z => by
            rcases g4 g z with y | y
            · exact hgf y
            · rw [s3 _ _ hg2] at y; cases y
          refine ⟨at_ + 1 + n, (Kqv5.step so cl).1, r4, gs ++ ((ans.length : Nat) : Int) :: ans, f', raw2, some (V.int (((at_ + 1 + n : Nat) : Nat) : Int)), some (V.ref q4), ?_, by omega, ?_, ?_, ?_, ?_, (ht4.upd_lst hg4).upd_lst upd_same, ?_, ?_, hg0, gf4⟩
          · have e2 : ((at_ : Nat) : Int) + 1 + ((n : Nat) : Int) = ((at_ + 1 + n : Nat) : Int) := by omega
            show [some (V.ref a), some (V.ref x), some (V.ref g), some (V.int (((at_ : Nat) : Int) + 1 + ((n : Nat) : Int))), some (V.int (((at_ : Nat) : Int) + 1 + ((n : Nat) : Int))), some (V.ref q4)] = _
            rw [e2]
          · have e3 : ms.drop (at_ + 1) = as0 := by
              have := congrArg List.tail hms
              rw [List.tail_drop] at this
              exact this
            rw [M.nats_drop, ← List.drop_drop, e3, ← M.nats_drop]
            exact hc2
          · rw [hans, erest]; simp
          · refine W4.frame fun c o hc e => ?_
            have : c ≠ g := fun z => gf4 (by rw [← z]; exact hc)
            rw [upd_ne this, upd_ne this]; exact e
          · intro c o e np
            have c1 : ¬ inF x r c := fun z => by rw [hout c z] at e; cases e
            have c2 : c ≠ g := fun z => by rw [z, hg0] at e; cases e
            rw [upd_ne c2, upd_ne c2]
            exact k4.k c o (s3 _ _ (s02 _ _ e np)) c1 np
          · intro c hc
            rcases g4 c hc with z | z
            · exact hout c z
            · refine s02.free (s3.free z) fun y => ?_
              obtain ⟨_, q', _⟩ := ht2
              rw [y, s3 _ _ q'] at z; cases z
          · rw [upd_same, List.map_append, List.append_assoc, List.length_map]
            rfl
        · show ms.length - (((at_ : Nat) : Int) + 1 + ((n : Nat) : Int)).toNat < ms.length - ((at_ : Nat) : Int).toNat
          omega
      · have ge := of_decide_eq_false e
        rw [List.length_map, nats_len] at ge
        have e1 : at_ = ms.length := by omega
        subst e1
        rw [List.drop_of_length_le (by rw [nats_len]; omega)] at hcalls
        rcases M.calls_cons hcalls with ⟨_, z⟩ | ⟨p, rr, n, f', raw2, hd, _⟩
        · subst z
          rw [M.rest_nil, List.append_nil] at hans
          refine ⟨_, rfl, k H2 g ?_⟩
          rw [hans]
          exact hg2
        · cases hd
    · rintro σ H1 Q1 Q2 hq ⟨v, e, v0, e0, p, ys, e1, e2, i, j, e3, e4, c, e5, q⟩
      exact ⟨v, e, v0, e0, p, ys, e1, e2, i, j, e3, e4, c, e5, hq _ _ q⟩
end
end B
namespace L2
open PySem PySem.Spec PyProof.Rows
open PySem.W (WData Codec OpenSpec Well WellAll ReadsW ReadsAllW)
/-! ### the call, a code's table beside it -/
theorem spec_callT {P : Program} {w : World} {K : PySem.W.Frag} {mg mb : Str → Option Value} {CX : CXT} {k : Nat} {fa Pt c : Addr} {fd : FuncData} {ps : List Str} {sp : Sp} {s₁ : Shared} {vals : List Value} {ds : List WData} {R : PySem.W.WRecords} {cl : Str → Option Addr} {d0 : WData}
    (KX : K.In s₁.heap) (hns : s₁.heap.Ns mainGlobals mg) (hb : s₁.heap.Ns builtinsNs mb) (hbb : ∀ x : Str, x ≠ "__name__" → mb x = bootBuiltins x) (hlim : s₁.heap.NoLimit) (hbm : BMain mg s₁.heap) (hg : s₁.gens = #[])
    (hP : s₁.heap.get? Pt = some (PySem.W.tabObj #[])) (hC : PySem.W.codeHdIn K c Pt = true) (hKP : K.lookup Pt = none)
    (hwl : WellAll w.params s₁.heap vals ds) (hpl : plWs ds = true) (hwt : ∀ d ∈ ds, d.weight ≤ 1048576) (hr : Room k callerA)
    (F : ∀ base : Heap, K.In base → base.Ns mainGlobals mg → BMain mg base → FnOk P w K mg base CX k fa fd ps sp) (hbind : Binds K fd ps []) (hlen : ds.length = ps.length)
    (hsp : ∀ (H H2 : Hp) (xs : List V), Same H H2 → H2 Pt = some (.tbl #[]) → DwAll K H xs ds → sp xs H2 (fun v H' => Dw K H' v d0) fun _ _ _ => False)
    (hCX : ∀ H e s', CX [] H s₁ (fun _ _ _ => False) e s' → False) :
    codeAny (model P w) callerA (.call (.ref fa) ⟨vals, []⟩) (fun r s' => ∃ u as, r = .ok (.ret u) ∧ ReadsW R cl s'.heap u d0 as ∧ OldK s₁.heap s'.heap ∧ s'.os = s₁.os ∧ AllBare s'.gens) s₁ := by
  obtain ⟨A, ho, ar⟩ := area_all ds vals hwl hpl hwt
  have hO0 : OnlyF (argH K s₁.heap A) := argH_only ar
  have hok0 : HOk P w (argH K s₁.heap A) s₁.heap := argH_ok ar
  have hS := dw_all KX ar ds vals hwl hpl ho
  have hV := vals_toV ho
  have hK0 : ∀ b u, argH K s₁.heap A b = some u → K.lookup b = none := fun b u q => (argH_is ar q).1
  -- what is tracked of the arguments is a list or a tuple
  have seq0 : ∀ {b : Addr} {o : Obj}, s₁.heap.get? b = some o → (∀ xs n, o.data ≠ .seq xs n) → argH K s₁.heap A b = none := fun {b o} e d => by
    cases q : argH K s₁.heap A b with
    | none => rfl
    | some u =>
      obtain ⟨_, vs, _, _, ⟨e2, _⟩ | ⟨e2, _⟩⟩ := argH_is ar q
      · rw [e2] at e; cases e; exact absurd rfl (d _ _)
      · rw [e2] at e; cases e; exact absurd rfl (d _ _)
  generalize argH K s₁.heap A = H0 at hO0 hok0 hS hK0 seq0
  have nP : H0 Pt = none := seq0 hP fun _ _ z => nomatch z
  have sm : Same H0 (upd H0 Pt (.tbl #[])) := fun b o e => by rw [upd_ne (ne_of_none e nP)]; exact e
  have hHP : (upd H0 Pt (.tbl #[])) Pt = some (.tbl #[]) := upd_same
  have hok : HOk P w (upd H0 Pt (.tbl #[])) s₁.heap := fun b u e => by
    by_cases z : b = Pt
    · subst z
      rw [upd_same] at e
      cases e
      exact hP
    · rw [upd_ne z] at e
      exact (hok0 b u e).stay (fun _ _ _ q => q) (fun b' q => sm b' _ q) fun b' xs q => sm b' _ q
  have non : ∀ {b : Addr} {o : Obj}, s₁.heap.get? b = some o → (∀ xs n, o.data ≠ .seq xs n) → (∀ xs, o.data ≠ .fields xs) → (upd H0 Pt (.tbl #[])) b = none := fun {b o} e d1 d2 => by
    have : b ≠ Pt := fun z => by rw [z, hP] at e; cases e; exact d2 _ rfl
    rw [upd_ne this]; exact seq0 e d1
  have only : ∀ b, b = Pt ∨ (upd H0 Pt (.tbl #[])) b = none ∨ ∃ o u, (upd H0 Pt (.tbl #[])) b = some (.frz o u) := fun b => by
    by_cases z : b = Pt
    · exact .inl z
    · rw [upd_ne z]; exact .inr (hO0 b)
  have nK0 : ∀ b o, K.lookup b = some o → (upd H0 Pt (.tbl #[])) b = none := fun b o e => by
    have z : b ≠ Pt := fun z => by rw [z, hKP] at e; cases e
    rw [upd_ne z]
    cases q : H0 b with
    | none => rfl
    | some u => rw [hK0 b u q] at e; cases e
  generalize hH : upd H0 Pt (.tbl #[]) = H at sm hHP hok non only nK0
  have base_of : ∀ {b : Addr} {o : Obj}, s₁.heap.get? b = some o → H b = none → (hidT s₁.heap H).get? b = some o := fun e n => hidT_get e n
  have nsK : ∀ {b : Addr} {m : Str → Option Value}, s₁.heap.Ns b m → (hidT s₁.heap H).Ns b m := fun {b m} ⟨o, es, ep, e, d, r⟩ => ⟨o, es, ep, base_of e (non e (fun _ _ z => by rw [d] at z; cases z) fun _ z => by rw [d] at z; cases z), d, r⟩
  have hKb : K.In (hidT s₁.heap H) := fun b o e => base_of (KX b o e) (nK0 b o e)
  have hBb : BMain mg (hidT s₁.heap H) := by
    obtain ⟨bm, ob, q1, q2, q3, q4, q5, q6⟩ := hbm
    exact ⟨bm, ob, q1, q2, base_of q3 (non q3 (fun _ _ z => by rw [q6] at z; cases z) fun _ z => by rw [q6] at z; cases z), q4, q5, q6⟩
  have hM : Mod K mg (hidT s₁.heap H) := ⟨hKb, nsK hns, ⟨mb, nsK hb, hbb⟩, let ⟨mc, h1, h2⟩ := hlim; ⟨mc, nsK h1, h2⟩⟩
  have e0 : Env0 P w K mg (hidT s₁.heap H) callerA [] s₁ H := ⟨rfl, hM, fun b o e => of_hidT e, Nat.le_of_eq (hidT_size _ _), trivial, fun b hb => absurd (show b ∈ ([] : List Addr) from hb) (by simp), hok, .of_eq hg⟩
  have hl : vals.length = ps.length := by rw [wellAll_len hwl]; exact hlen
  refine codeAny_mono ((F _ hKb (nsK hns) hBb).run callerA [] s₁ H ⟨vals, []⟩ vals (vals.map toV) _ _ hr e0 (by have z := hbind s₁ vals KX (by rw [List.append_nil]; exact hl); rwa [List.append_nil] at z) hV (hsp H0 H _ sm hHP hS)) fun r s' x => ?_
  cases r with
  | error e => exact (hCX H e s' x).elim
  | ok fl =>
    cases fl with
    | next => exact False.elim x
    | brk => exact False.elim x
    | cont => exact False.elim x
    | ret u =>
      obtain ⟨v, H', os, bare, un, hok', r', q⟩ := x
      have kept : ∀ b o, s₁.heap.get? b = some o → b ≠ Pt → s'.heap.get? b = some o := fun b o e nb => by
        rcases only b with z | z | ⟨ob, u3, z⟩
        · exact absurd z nb
        · exact un.keep b o e z (by intro y; exact absurd (show b ∈ ([] : List Addr) from y) (by simp)) (by simp)
        · have z2 := un.frzs b ob _ z
          obtain ⟨e1, _⟩ := hok b _ z
          obtain ⟨e2, _⟩ := hok' b _ z2
          rw [e] at e1
          cases e1
          exact e2
      obtain ⟨more, hm⟩ := un.tbls Pt #[] hHP
      have grown : s'.heap.get? Pt = some (PySem.W.tabObj more) := by
        have := hok' Pt _ hm
        rw [Array.empty_append] at this
        exact this
      have isT : isCodeTable s₁.heap Pt := ((PySem.W.codeHd_of_K KX hC).tab hP).isCodeTable
      have old : OldK s₁.heap s'.heap := by
        refine ⟨fun b o e => ?_, fun b o e => ?_⟩
        · by_cases z : b = Pt
          · subst z
            rw [hP] at e
            cases e
            exact .inr (.inl ⟨isT, rfl, #[], more, rfl, by rw [Array.empty_append]; exact grown⟩)
          · exact .inl (kept b o e z)
        · by_cases z : b = Pt
          · subst z; exact ⟨_, grown⟩
          · exact ⟨o, kept b o e z⟩
      have KX' : K.In s'.heap := fun b o e => kept b o (KX b o e) fun z => by rw [z, hKP] at e; cases e
      obtain ⟨as, hrd⟩ := Dw.reads (R := R) (cl := cl) hok' KX' d0 v u q r'
      exact ⟨u, as, rfl, hrd, old, os, bare⟩
theorem walk_specT {r : OpenSpec} {k : Nat} {q : Program} {loose : List Str} {XP : (Str → Option Value) → Heap → Prop} {YP : World → Heap → Prop} {d : DefRec} {K : Params → PySem.W.Frag} {CX : CXT} {ps : List Str}
    (hwell : r.wellSaid = true) (hlen : r.args.length = ps.length) (hr : Room k callerA)
    (hY : ∀ (w : World) (h : Heap), YP w h → (K w.params).In h)
    (F : ∀ (w : World) (mg : Str → Option Value) (fa : Addr) (h : Heap), YP w h → (K w.params).In h → h.Ns mainGlobals mg → mg d.name = some (.ref fa) →
      ∃ (fd : FuncData) (sp : Sp) (Pt c : Addr), Binds (K w.params) fd ps [] ∧ h.get? Pt = some (PySem.W.tabObj #[]) ∧ PySem.W.codeHdIn (K w.params) c Pt = true ∧ (K w.params).lookup Pt = none ∧
        (∀ base : Heap, (K w.params).In base → base.Ns mainGlobals mg → BMain mg base → FnOk r.prog w (K w.params) mg base CX k fa fd ps sp) ∧
        ∀ (H H2 : Hp) (xs : List V) (a : Codec.denoteAll r.args), Same H H2 → H2 Pt = some (.tbl #[]) → Codec.withinAll r.args a = true → Codec.app r.args r.asked a = true → DwAll (K w.params) H xs (Codec.encAll r.args a) →
          sp xs H2 (fun v H' => Dw (K w.params) H' v (r.ret.enc (Codec.app r.args r.f a))) fun _ _ _ => False)
    (hCX : ∀ (H : Hp) (s : Shared) (e : Value) (s' : Shared), CX [] H s (fun _ _ _ => False) e s' → False) :
    PySem.W.WalkOS q loose XP YP r d [] (fun f vs => PySem.call f vs) := by
  intro w s_0 s₁ mg mb G Y fa o pm cd doc dV kV ho hd hcd hD hmg hg args vals as hpre hlay hrd hwl hlo
  obtain ⟨a, e1, e2⟩ := PySem.W.os_pre_some hpre
  obtain ⟨e3, hwi⟩ := Codec.encAll_of_decAll r.args args a e1
  subst e3
  have KX := hY w _ Y
  obtain ⟨fd, sp, Pt, c, hb, hP, hC, hKP, hF, hS⟩ := F w mg fa _ Y KX G.T.g hmg
  refine PySem.W.enter_call (codeAny_mono (spec_callT (R := []) (cl := classAt s_0.heap) (d0 := r.ret.enc (Codec.app r.args r.f a)) KX G.T.g G.T.b G.T.builtins G.T.nolimit G.T.bmain hg hP hC hKP hwl (pl_encAll _ _) (layable_weight hlay) hr hF hb (by rw [encAll_len]; exact hlen)
    (fun H H2 xs sm hp hd => hS H H2 xs a sm hp hwi e2 hd) fun H e s' => hCX H s₁ e s') fun r' s' hq => ?_)
  obtain ⟨u, as', rfl, h1, h2, h3, h4⟩ := hq
  exact ⟨.inl ⟨u, _, as', rfl, fun _ => rfl, h1, (OpenSpec.post_iff hwell hwi _ _).mpr rfl, fun z => Bool.noConfusion (show false = true from z)⟩, h2, h3, h4⟩
end L2
-- names taken ahead of the head, so that it makes no quick twins of the objects that it writes out (it comes through without; the compiled file is a third as large)
namespace PySem.W.Fast
def tw2015423286014011192 := 0
def tw11278436543500205452 := 0
def tw2536159410185663048 := 0
def tw15493225204106804653 := 0
def tw643590580382456001 := 0
def tw8941339754948026692 := 0
def tw10716908932512245711 := 0
def tw3706530272994205944 := 0
def tw11321216872210158404 := 0
def tw18116774183334160596 := 0
def tw520916616051713994 := 0
def tw13170623072797281420 := 0
def tw4849209824474665504 := 0
def tw4418597424111076617 := 0
def tw10302157532982362273 := 0
def tw8433194732251416449 := 0
def tw6216553766213865970 := 0
def tw9181967446167168261 := 0
def tw9571858918881183401 := 0
def tw16250906339293670559 := 0
def tw6691422244375830875 := 0
def tw17061207638691954187 := 0
def tw16925812051926122965 := 0
def tw10033669097774033050 := 0
def tw13093745868428119753 := 0
def tw959145005318924441 := 0
def tw13107811549769670926 := 0
def tw6903086953293041884 := 0
def tw11807473577180940608 := 0
def tw18042539620501302816 := 0
def tw13208422473293436333 := 0
def tw1494185836348773464 := 0
def tw6780588075923838644 := 0
def tw13282475278395598198 := 0
def tw4830349247134985669 := 0
def tw16506557672512639546 := 0
def tw17373071971102493390 := 0
def tw14444953740941574637 := 0
def tw4656830210810990545 := 0
def tw6594994876246224345 := 0
def tw4254976489685863797 := 0
def tw17437653458807903532 := 0
def tw16085697289893119811 := 0
def tw16653442411826884500 := 0
def tw4479849546203277935 := 0
def tw2012670257668463080 := 0
def tw10513896807686208593 := 0
def tw1920223298328149754 := 0
def tw491015911992290060 := 0
def tw17237307583715959286 := 0
def tw4653802084288797664 := 0
def tw10353009538926640461 := 0
def tw15660356476466016188 := 0
def tw8150955520966035595 := 0
def tw6886002725705972480 := 0
def tw17105751753298171503 := 0
def tw10761793876253565797 := 0
def tw4319663702487305064 := 0
def tw17411759116153237781 := 0
def tw418050372240745659 := 0
def tw10630617355809375784 := 0
def tw17547454323537421258 := 0
def tw398413159139472290 := 0
def tw2573056752695525003 := 0
def tw15522886178297869753 := 0
def tw943263760171393741 := 0
def tw15494839769924358940 := 0
def tw14492003407524408126 := 0
def tw2765412330902118862 := 0
def tw12716422497904362084 := 0
def tw12883513185788394109 := 0
def tw291180762557991391 := 0
def tw1814577372066156074 := 0
def tw8459847356867063941 := 0
def tw9861004209391253515 := 0
def tw12701126819506356257 := 0
def tw1788432143658279062 := 0
def tw2408354606242234472 := 0
def tw7276976187937907979 := 0
def tw15312022671545858516 := 0
def tw1631191669050618425 := 0
def tw14839868219686594715 := 0
def tw8335541153113912726 := 0
def tw584353740166956416 := 0
def tw18336200591684002593 := 0
def tw5549715037568959868 := 0
def tw12783582898745144901 := 0
def tw13991627041964592957 := 0
def tw12218597717229556427 := 0
def tw16835820163365836308 := 0
def tw1715180915681021140 := 0
def tw4727877747675442246 := 0
def tw17557695911154336156 := 0
def tw13453418040376877141 := 0
def tw5515427056721435723 := 0
def tw5296925932048421289 := 0
def tw12634388617926780645 := 0
def tw11718997291239910044 := 0
def tw16377631807939335064 := 0
def tw14629096276260216497 := 0
def tw8181369245620878718 := 0
def tw2563568149221582516 := 0
def tw11460466554001302947 := 0
def tw2876270592578533722 := 0
def tw15425418944305604043 := 0
def tw9139754526370960568 := 0
def tw15371972641832691204 := 0
def tw1079692119642336413 := 0
def tw5602873651902697551 := 0
def tw12999709743277647012 := 0
def tw1766128366845768838 := 0
def tw17157266606044937875 := 0
def tw9550016586563543100 := 0
def tw10327910112790789164 := 0
def tw15438985549298037336 := 0
def tw16422573655117254703 := 0
def tw6808603677663318430 := 0
def tw5250699056524753152 := 0
def tw15017753469577701493 := 0
def tw7408730136263252692 := 0
def tw11894993847987585565 := 0
def tw15503766982259406597 := 0
def tw17629410102042677083 := 0
def tw5589847949938054437 := 0
def tw4184290497859481264 := 0
def tw8699991297322191627 := 0
def tw12265114626409750677 := 0
def tw5722485088818480330 := 0
def tw9348757985544775334 := 0
def tw5482521671930348893 := 0
def tw6341419493115138143 := 0
def tw18117950189429492792 := 0
def tw13700656881883253694 := 0
def tw15623312213366938709 := 0
def tw180827808804937944 := 0
def tw956046518993529309 := 0
def tw14814720921353381926 := 0
def tw11419705762138550234 := 0
def tw15144145741662446538 := 0
def tw100601707081122485 := 0
def tw15496105772889443575 := 0
def tw6295903446470667840 := 0
def tw12529790666175284695 := 0
def tw7250830312190194863 := 0
def tw6899535149018956376 := 0
def tw16504754638825007584 := 0
def tw6119385182959181744 := 0
def tw16207248952117819620 := 0
def tw15363114570368313040 := 0
def tw7223328853374630109 := 0
def tw15498432205274079341 := 0
def tw6383726156634790096 := 0
def tw6896887220060709141 := 0
def tw6368134712922781738 := 0
def tw4367634551462150374 := 0
def tw12173477624198447301 := 0
def tw12735319382362202153 := 0
def tw13778967676925745206 := 0
def tw12733623342151710469 := 0
def tw12105879718018241120 := 0
def tw14136886212414068692 := 0
def tw11164879056589579419 := 0
def tw7529684573997341430 := 0
def tw5148885352062239337 := 0
def tw10932293359992924418 := 0
def tw695524469543207597 := 0
def tw11757148091771579411 := 0
def tw4705603283005911161 := 0
def tw2674117898325231055 := 0
def tw4369751915686653018 := 0
def tw6366243522777371003 := 0
def tw2781095503368242622 := 0
def tw9228903483422512035 := 0
def tw6754731009884599351 := 0
def tw11611002051300972331 := 0
def tw15795150503072761569 := 0
def tw13201773829608645720 := 0
def tw18279859281805969091 := 0
def tw9616659554310335345 := 0
def tw12622421118565646746 := 0
def tw5100432070530393214 := 0
def tw11355098796283399290 := 0
def tw12061523039221855681 := 0
def tw7366523111835629649 := 0
def tw16805527758278808452 := 0
def tw18008038374533938514 := 0
def tw8568515702844231057 := 0
def tw12311451680343582260 := 0
def tw279527259509765147 := 0
def tw3963861434094265511 := 0
def tw14206722746072202534 := 0
def tw6000288941678012582 := 0
def tw10944905131169784595 := 0
def tw4176129824553719176 := 0
def tw8316471057591883799 := 0
def tw3149712117028994971 := 0
def tw384960038121892880 := 0
def tw8571445715024135075 := 0
def tw4275200250088615840 := 0
def tw6871329294206870705 := 0
def tw17880089237372791333 := 0
def tw4384532322732992945 := 0
def tw10689476158233023239 := 0
def tw2701023802120607743 := 0
def tw11668146109631765958 := 0
def tw10593346395932104958 := 0
def tw17091538572206005126 := 0
def tw469374038145526067 := 0
def tw6330502811291598860 := 0
def tw10822774196677406261 := 0
def tw2980233376737885832 := 0
def tw13935711770221087481 := 0
def tw16201881610641490335 := 0
def tw17629514384966488667 := 0
def tw8231983096520625466 := 0
def tw3880461089251111506 := 0
def tw5004366260884755539 := 0
def tw7052189759147230125 := 0
def tw10801170906960359547 := 0
def tw16449337908478539023 := 0
def tw8540209521387376770 := 0
def tw16563544734167576501 := 0
def tw4411449192930045538 := 0
def tw6014927505755429916 := 0
def tw8221011147331318834 := 0
def tw18235525691014896017 := 0
def tw17311613086279552567 := 0
def tw5168243846477456655 := 0
def tw325518746917244408 := 0
def tw18200335478783360600 := 0
def tw16220073953518472134 := 0
def tw5389570060713364748 := 0
def tw8812971323962410039 := 0
def tw6789421444588110110 := 0
def tw8035763516094548183 := 0
def tw1752048641929062246 := 0
def tw6757399881032690465 := 0
def tw3597707637256046589 := 0
def tw7341710059850653405 := 0
def tw4061523636754149210 := 0
def tw4484928292473866244 := 0
def tw12572425082699807375 := 0
def tw10173276087162945407 := 0
def tw14632116615272938332 := 0
def tw730542627028222116 := 0
def tw13568282931867302516 := 0
def tw2823259503451783066 := 0
def tw8073118708617712253 := 0
def tw17367065193264030786 := 0
def tw4381612576683730350 := 0
def tw1796491265779868676 := 0
def tw416504475805691406 := 0
def tw1407104709891350694 := 0
def tw15715844512473791456 := 0
def tw2990581358665523741 := 0
def tw17474734787127168555 := 0
def tw12490351267508252017 := 0
def tw15295017904946034557 := 0
def tw13597798869614829386 := 0
def tw13906802083286985254 := 0
def tw6419701149481942685 := 0
def tw5090920827433448046 := 0
def tw7682903944988237106 := 0
def tw12513458294683138338 := 0
def tw5768512074171505661 := 0
def tw3793312253774664830 := 0
def tw11289523673504777903 := 0
def tw7208426407931911394 := 0
def tw17292019006787747108 := 0
def tw1464856633182785884 := 0
def tw16551507243036153096 := 0
def tw4827004105554258642 := 0
def tw12095410095088640372 := 0
def tw16421876644268879247 := 0
def tw5492373746459985844 := 0
def tw7204277827993390687 := 0
def tw18111513118034837277 := 0
def tw11012519035292421895 := 0
def tw1327147057922119851 := 0
def tw5312347967899912980 := 0
def tw9837429090848243640 := 0
def tw4832427385774441489 := 0
def tw9188316748176746315 := 0
def tw12919965104631800652 := 0
def tw10569599347575947179 := 0
def tw15255264634919753983 := 0
def tw9274676310914334929 := 0
def tw8432789828137513532 := 0
def tw276704588613307336 := 0
def tw9174694803916160726 := 0
def tw12618753754057067961 := 0
def tw10667836414305221155 := 0
def tw3010866319868883860 := 0
def tw3637284745302454493 := 0
def tw6640700986900890663 := 0
def tw5397778600843358659 := 0
def tw18271252760672986522 := 0
def tw17783309945109813202 := 0
def tw9857907579158741676 := 0
def tw14129261783280899394 := 0
def tw6109749480863442775 := 0
def tw144204363073917464 := 0
def tw15879147911257266833 := 0
def tw14063292666053799390 := 0
def tw14406095043045262582 := 0
def tw16174470911784163088 := 0
def tw11591050126712417796 := 0
def tw5166465621339163285 := 0
def tw166818429134950525 := 0
def tw13409173519873672061 := 0
def tw2824348107534012343 := 0
def tw16661780785388814435 := 0
def tw2030465942648465443 := 0
def tw5805822905836160221 := 0
def tw13056092384544317561 := 0
def tw16484124436985330867 := 0
def tw12834240030812632360 := 0
def tw8107160768599676678 := 0
def tw15674334565222002308 := 0
def tw10530413372665768540 := 0
def tw16159141523245775036 := 0
def tw17065271171045512459 := 0
def tw12250841060136467628 := 0
def tw13251645244743044299 := 0
def tw6590003881390958791 := 0
def tw17848804252085971948 := 0
def tw3927605100730058074 := 0
def tw10789508540207729349 := 0
def tw5422562930496093582 := 0
def tw5802094282663262456 := 0
def tw3034014314520879505 := 0
def tw3763322492288204031 := 0
def tw9914698313024791836 := 0
def tw13105093388724958566 := 0
def tw6531516768123174801 := 0
def tw13955955863846208991 := 0
def tw8643505947210023961 := 0
def tw12358754118885506472 := 0
def tw4587246778246055528 := 0
def tw17462195446602578381 := 0
def tw398225313182354564 := 0
def tw17136569831247491631 := 0
def tw6669775532881334390 := 0
def tw440947354160204107 := 0
def tw14517204847055139988 := 0
def tw4653357814717406796 := 0
def tw2248995995580456977 := 0
def tw15499054240996839951 := 0
def tw5104353978540657868 := 0
def tw15444599408296446988 := 0
def tw12873921113146332043 := 0
def tw1520324314479725022 := 0
def tw7936878146117839639 := 0
def tw17161723999457478911 := 0
def tw4389966772602243541 := 0
def tw4655230387547422317 := 0
def tw6360048608847371604 := 0
def tw8565193564614750365 := 0
def tw2662073171174747086 := 0
def tw6613730990920431244 := 0
def tw13571872267028154273 := 0
def tw6300021776180703843 := 0
def tw5884617473055941404 := 0
def tw17603023082560575520 := 0
def tw9964613018324600046 := 0
def tw18027199128571408123 := 0
def tw5543167389789953549 := 0
def tw16795035682261712454 := 0
def tw17510402478832839941 := 0
def tw13293043331703531715 := 0
def tw6632309909590416836 := 0
def tw8724531850504228612 := 0
def tw18309297134014358325 := 0
def tw18353502059075542204 := 0
def tw469524583888724066 := 0
def tw13153218680949203313 := 0
def tw1257038399486705199 := 0
def tw1778258605373653122 := 0
def tw18255256474946015076 := 0
def tw13343574090376068761 := 0
def tw4475394195001178983 := 0
def tw8224570080271566435 := 0
def tw16606710552609294720 := 0
def tw5711272085752786416 := 0
def tw8776361018266197869 := 0
def tw16503455630814645505 := 0
def tw13503945394818974873 := 0
def tw10633543078399311867 := 0
def tw14527063047002971366 := 0
def tw5553383913840917899 := 0
def tw3305945263249028784 := 0
def tw9942030909986953801 := 0
def tw132839232400542786 := 0
def tw12314259793677356572 := 0
def tw5831103005735170065 := 0
def tw11270877286838517363 := 0
def tw6806463216339604811 := 0
def tw9887302599530452521 := 0
def tw5568189934580491628 := 0
def tw1867011335659311272 := 0
def tw16886468306342988282 := 0
def tw14192631301475681674 := 0
def tw9930420317384364015 := 0
def tw17351205795850174629 := 0
def tw10911044270923114171 := 0
def tw12918698267030309169 := 0
def tw17700958528995793224 := 0
def tw3687235516895710949 := 0
def tw4520848856748298173 := 0
def tw1160871958223331298 := 0
def tw13277800829422471142 := 0
def tw7897984879619294871 := 0
def tw9440700105207305674 := 0
def tw14156978422959967525 := 0
def tw6337276232863188739 := 0
def tw8330661211777024957 := 0
def tw9720279731642364837 := 0
def tw12909562450053006664 := 0
def tw5010296965580114356 := 0
def tw4334565492277354112 := 0
def tw387202374765646333 := 0
def tw15043135565757211685 := 0
def tw702048373064139637 := 0
def tw16095965787397739533 := 0
def tw17343333307227264474 := 0
def tw15873990365976996846 := 0
def tw6285000204407481277 := 0
def tw15692359727110594400 := 0
def tw13077232085859301567 := 0
def tw4031686764243645800 := 0
def tw5270256572977425872 := 0
def tw12378403640875701066 := 0
def tw8180056068562551338 := 0
def tw11930317285684274986 := 0
def tw15254885627116460107 := 0
def tw12965395395004480381 := 0
def tw4965403847982713121 := 0
def tw14698033519380682985 := 0
def tw13396846431981132797 := 0
def tw8424081559049234313 := 0
def tw440010459465646831 := 0
def tw15026936569421512 := 0
def tw8034016206517637806 := 0
def tw329201780181599278 := 0
def tw5295197886903287674 := 0
def tw13734604999056825708 := 0
def tw629652115696209292 := 0
def tw12300479935232108746 := 0
def tw13317663929193034299 := 0
def tw3591294648204608269 := 0
def tw10499401993098889162 := 0
def tw7553825773193689494 := 0
def tw7714944506641942402 := 0
def tw4908190193602432326 := 0
def tw1158225442466291601 := 0
def tw10583570992827900040 := 0
def tw12553904990032621898 := 0
def tw3892002551740151053 := 0
def tw6149517088825113396 := 0
def tw2015935078978723913 := 0
def tw17137370676502366179 := 0
def tw14244543929102522640 := 0
def tw6893468166547760141 := 0
def tw427000568536683846 := 0
def tw4448335109289140955 := 0
def tw9478159162281180766 := 0
def tw2168821139462668659 := 0
def tw16856963019453505511 := 0
def tw14889499571005937848 := 0
def tw10275434962800390968 := 0
def tw12837169950298981208 := 0
def tw1150214716133031888 := 0
def tw11694395602490426096 := 0
def tw7811126209702391661 := 0
def tw11424614230386037892 := 0
def tw3011680217452230055 := 0
def tw162809302380099325 := 0
def tw16000746275757646069 := 0
def tw13211159321453973718 := 0
def tw18382783621080448521 := 0
def tw5585389821252036723 := 0
def tw3045369414357983842 := 0
def tw272779339241171416 := 0
def tw14182155700737912002 := 0
def tw8709417698201569053 := 0
def tw17384880086297514035 := 0
def tw1796491365699401590 := 0
def tw5458212870679128612 := 0
def tw704465743148420949 := 0
def tw16198364684313178751 := 0
def tw12721030497793149128 := 0
def tw5884083746714763116 := 0
def tw9590267653555937096 := 0
def tw4778116430009132216 := 0
def tw9830056841861508314 := 0
def tw7960317983982427822 := 0
def tw15496752814902484052 := 0
def tw12106462143807626330 := 0
def tw14016639125250363896 := 0
def tw12571943529794441397 := 0
end PySem.W.Fast
namespace B
open PySem PySem.Spec PyProof.Rows L2
def all_mk {K : PySem.W.Frag} {h : Heap} {mg : Str → Option Value} {C_Blade : Addr} {C_Works : Addr} {f_units_needed : Addr} {oc_units_needed kV_units_needed dc_units_needed pm_units_needed cd_units_needed ct_units_needed : Value} {od_units_needed an_units_needed : Option Addr} {sl_units_needed : Array (Option Value)} {f_shortfall : Addr} {oc_shortfall kV_shortfall dc_shortfall pm_shortfall cd_shortfall ct_shortfall : Value} {od_shortfall an_shortfall : Option Addr} {sl_shortfall : Array (Option Value)} {f_how_far_off : Addr} {oc_how_far_off kV_how_far_off dc_how_far_off pm_how_far_off cd_how_far_off ct_how_far_off : Value} {od_how_far_off an_how_far_off : Option Addr} {sl_how_far_off : Array (Option Value)} {f_is_moment : Addr} {oc_is_moment kV_is_moment dc_is_moment pm_is_moment cd_is_moment ct_is_moment : Value} {od_is_moment an_is_moment : Option Addr} {sl_is_moment : Array (Option Value)} {f_reply_start : Addr} {oc_reply_start kV_reply_start dc_reply_start pm_reply_start cd_reply_start ct_reply_start : Value} {od_reply_start an_reply_start : Option Addr} {sl_reply_start : Array (Option Value)} {f_reply_blade : Addr} {oc_reply_blade kV_reply_blade dc_reply_blade pm_reply_blade cd_reply_blade ct_reply_blade : Value} {od_reply_blade an_reply_blade : Option Addr} {sl_reply_blade : Array (Option Value)} {f_refusal_unless_free : Addr} {oc_refusal_unless_free kV_refusal_unless_free dc_refusal_unless_free pm_refusal_unless_free cd_refusal_unless_free ct_refusal_unless_free : Value} {od_refusal_unless_free an_refusal_unless_free : Option Addr} {sl_refusal_unless_free : Array (Option Value)} {f_reply_weigh : Addr} {oc_reply_weigh kV_reply_weigh dc_reply_weigh pm_reply_weigh cd_reply_weigh ct_reply_weigh : Value} {od_reply_weigh an_reply_weigh : Option Addr} {sl_reply_weigh : Array (Option Value)} {f_reply_scrap : Addr} {oc_reply_scrap kV_reply_scrap dc_reply_scrap pm_reply_scrap cd_reply_scrap ct_reply_scrap : Value} {od_reply_scrap an_reply_scrap : Option Addr} {sl_reply_scrap : Array (Option Value)} {f_reply_add : Addr} {oc_reply_add kV_reply_add dc_reply_add pm_reply_add cd_reply_add ct_reply_add : Value} {od_reply_add an_reply_add : Option Addr} {sl_reply_add : Array (Option Value)} {f_reply_look : Addr} {oc_reply_look kV_reply_look dc_reply_look pm_reply_look cd_reply_look ct_reply_look : Value} {od_reply_look an_reply_look : Option Addr} {sl_reply_look : Array (Option Value)} {f_refusal_unless_several : Addr} {oc_refusal_unless_several kV_refusal_unless_several dc_refusal_unless_several pm_refusal_unless_several cd_refusal_unless_several ct_refusal_unless_several : Value} {od_refusal_unless_several an_refusal_unless_several : Option Addr} {sl_refusal_unless_several : Array (Option Value)} {f_reply_needs : Addr} {oc_reply_needs kV_reply_needs dc_reply_needs pm_reply_needs cd_reply_needs ct_reply_needs : Value} {od_reply_needs an_reply_needs : Option Addr} {sl_reply_needs : Array (Option Value)} {f_reply_off : Addr} {oc_reply_off kV_reply_off dc_reply_off pm_reply_off cd_reply_off ct_reply_off : Value} {od_reply_off an_reply_off : Option Addr} {sl_reply_off : Array (Option Value)} {f_reply_match : Addr} {oc_reply_match kV_reply_match dc_reply_match pm_reply_match cd_reply_match ct_reply_match : Value} {od_reply_match an_reply_match : Option Addr} {sl_reply_match : Array (Option Value)} {f_reply_set : Addr} {oc_reply_set kV_reply_set dc_reply_set pm_reply_set cd_reply_set ct_reply_set : Value} {od_reply_set an_reply_set : Option Addr} {sl_reply_set : Array (Option Value)} {f_reply_part : Addr} {oc_reply_part kV_reply_part dc_reply_part pm_reply_part cd_reply_part ct_reply_part : Value} {od_reply_part an_reply_part : Option Addr} {sl_reply_part : Array (Option Value)} {f_best_beside : Addr} {oc_best_beside kV_best_beside dc_best_beside pm_best_beside cd_best_beside ct_best_beside : Value} {od_best_beside an_best_beside : Option Addr} {sl_best_beside : Array (Option Value)} {f_reply_third : Addr} {oc_reply_third kV_reply_third dc_reply_third pm_reply_third cd_reply_third ct_reply_third : Value} {od_reply_third an_reply_third : Option Addr} {sl_reply_third : Array (Option Value)} {f_reply_spare : Addr} {oc_reply_spare kV_reply_spare dc_reply_spare pm_reply_spare cd_reply_spare ct_reply_spare : Value} {od_reply_spare an_reply_spare : Option Addr} {sl_reply_spare : Array (Option Value)} {f_reply_exchange : Addr} {oc_reply_exchange kV_reply_exchange dc_reply_exchange pm_reply_exchange cd_reply_exchange ct_reply_exchange : Value} {od_reply_exchange an_reply_exchange : Option Addr} {sl_reply_exchange : Array (Option Value)} {f_reply_balanced : Addr} {oc_reply_balanced kV_reply_balanced dc_reply_balanced pm_reply_balanced cd_reply_balanced ct_reply_balanced : Value} {od_reply_balanced an_reply_balanced : Option Addr} {sl_reply_balanced : Array (Option Value)} {f_reply_ship : Addr} {oc_reply_ship kV_reply_ship dc_reply_ship pm_reply_ship cd_reply_ship ct_reply_ship : Value} {od_reply_ship an_reply_ship : Option Addr} {sl_reply_ship : Array (Option Value)} {f_reply_plan : Addr} {oc_reply_plan kV_reply_plan dc_reply_plan pm_reply_plan cd_reply_plan ct_reply_plan : Value} {od_reply_plan an_reply_plan : Option Addr} {sl_reply_plan : Array (Option Value)} {f_reply_least : Addr} {oc_reply_least kV_reply_least dc_reply_least pm_reply_least cd_reply_least ct_reply_least : Value} {od_reply_least an_reply_least : Option Addr} {sl_reply_least : Array (Option Value)} {f_reply_follow : Addr} {oc_reply_follow kV_reply_follow dc_reply_follow pm_reply_follow cd_reply_follow ct_reply_follow : Value} {od_reply_follow an_reply_follow : Option Addr} {sl_reply_follow : Array (Option Value)} {f_reply_free : Addr} {oc_reply_free kV_reply_free dc_reply_free pm_reply_free cd_reply_free ct_reply_free : Value} {od_reply_free an_reply_free : Option Addr} {sl_reply_free : Array (Option Value)} {f_reply_sums : Addr} {oc_reply_sums kV_reply_sums dc_reply_sums pm_reply_sums cd_reply_sums ct_reply_sums : Value} {od_reply_sums an_reply_sums : Option Addr} {sl_reply_sums : Array (Option Value)} {f_reply_state : Addr} {oc_reply_state kV_reply_state dc_reply_state pm_reply_state cd_reply_state ct_reply_state : Value} {od_reply_state an_reply_state : Option Addr} {sl_reply_state : Array (Option Value)} {f_reply_to : Addr} {oc_reply_to kV_reply_to dc_reply_to pm_reply_to cd_reply_to ct_reply_to : Value} {od_reply_to an_reply_to : Option Addr} {sl_reply_to : Array (Option Value)} {f_Blade_init : Addr} {oc_Blade_init kV_Blade_init dc_Blade_init pm_Blade_init cd_Blade_init ct_Blade_init : Value} {od_Blade_init an_Blade_init : Option Addr} {sl_Blade_init : Array (Option Value)} {f_Blade_pull : Addr} {oc_Blade_pull kV_Blade_pull dc_Blade_pull pm_Blade_pull cd_Blade_pull ct_Blade_pull : Value} {od_Blade_pull an_Blade_pull : Option Addr} {sl_Blade_pull : Array (Option Value)} {f_Blade_is_free : Addr} {oc_Blade_is_free kV_Blade_is_free dc_Blade_is_free pm_Blade_is_free cd_Blade_is_free ct_Blade_is_free : Value} {od_Blade_is_free an_Blade_is_free : Option Addr} {sl_Blade_is_free : Array (Option Value)} {f_Blade_weigh_anew : Addr} {oc_Blade_weigh_anew kV_Blade_weigh_anew dc_Blade_weigh_anew pm_Blade_weigh_anew cd_Blade_weigh_anew ct_Blade_weigh_anew : Value} {od_Blade_weigh_anew an_Blade_weigh_anew : Option Addr} {sl_Blade_weigh_anew : Array (Option Value)} {f_Works_init : Addr} {oc_Works_init kV_Works_init dc_Works_init pm_Works_init cd_Works_init ct_Works_init : Value} {od_Works_init an_Works_init : Option Addr} {sl_Works_init : Array (Option Value)} {f_Works_begin : Addr} {oc_Works_begin kV_Works_begin dc_Works_begin pm_Works_begin cd_Works_begin ct_Works_begin : Value} {od_Works_begin an_Works_begin : Option Addr} {sl_Works_begin : Array (Option Value)} {f_Works_take_in : Addr} {oc_Works_take_in kV_Works_take_in dc_Works_take_in pm_Works_take_in cd_Works_take_in ct_Works_take_in : Value} {od_Works_take_in an_Works_take_in : Option Addr} {sl_Works_take_in : Array (Option Value)} {f_Works_has_blades : Addr} {oc_Works_has_blades kV_Works_has_blades dc_Works_has_blades pm_Works_has_blades cd_Works_has_blades ct_Works_has_blades : Value} {od_Works_has_blades an_Works_has_blades : Option Addr} {sl_Works_has_blades : Array (Option Value)} {f_Works_of_one_kind : Addr} {oc_Works_of_one_kind kV_Works_of_one_kind dc_Works_of_one_kind pm_Works_of_one_kind cd_Works_of_one_kind ct_Works_of_one_kind : Value} {od_Works_of_one_kind an_Works_of_one_kind : Option Addr} {sl_Works_of_one_kind : Array (Option Value)} {f_Works_all_free : Addr} {oc_Works_all_free kV_Works_all_free dc_Works_all_free pm_Works_all_free cd_Works_all_free ct_Works_all_free : Value} {od_Works_all_free an_Works_all_free : Option Addr} {sl_Works_all_free : Array (Option Value)} {f_Works_free_of_kind : Addr} {oc_Works_free_of_kind kV_Works_free_of_kind dc_Works_free_of_kind pm_Works_free_of_kind cd_Works_free_of_kind ct_Works_free_of_kind : Value} {od_Works_free_of_kind an_Works_free_of_kind : Option Addr} {sl_Works_free_of_kind : Array (Option Value)} {f_Works_pulls : Addr} {oc_Works_pulls kV_Works_pulls dc_Works_pulls pm_Works_pulls cd_Works_pulls ct_Works_pulls : Value} {od_Works_pulls an_Works_pulls : Option Addr} {sl_Works_pulls : Array (Option Value)} {f_Works_units_for : Addr} {oc_Works_units_for kV_Works_units_for dc_Works_units_for pm_Works_units_for cd_Works_units_for ct_Works_units_for : Value} {od_Works_units_for an_Works_units_for : Option Addr} {sl_Works_units_for : Array (Option Value)} {f_Works_may_be_set : Addr} {oc_Works_may_be_set kV_Works_may_be_set dc_Works_may_be_set pm_Works_may_be_set cd_Works_may_be_set ct_Works_may_be_set : Value} {od_Works_may_be_set an_Works_may_be_set : Option Addr} {sl_Works_may_be_set : Array (Option Value)} {f_Works_needs_nothing : Addr} {oc_Works_needs_nothing kV_Works_needs_nothing dc_Works_needs_nothing pm_Works_needs_nothing cd_Works_needs_nothing ct_Works_needs_nothing : Value} {od_Works_needs_nothing an_Works_needs_nothing : Option Addr} {sl_Works_needs_nothing : Array (Option Value)} {f_Works_even_out : Addr} {oc_Works_even_out kV_Works_even_out dc_Works_even_out pm_Works_even_out cd_Works_even_out ct_Works_even_out : Value} {od_Works_even_out an_Works_even_out : Option Addr} {sl_Works_even_out : Array (Option Value)} {f_Works_bind : Addr} {oc_Works_bind kV_Works_bind dc_Works_bind pm_Works_bind cd_Works_bind ct_Works_bind : Value} {od_Works_bind an_Works_bind : Option Addr} {sl_Works_bind : Array (Option Value)} {f_Works_bind_as : Addr} {oc_Works_bind_as kV_Works_bind_as dc_Works_bind_as pm_Works_bind_as cd_Works_bind_as ct_Works_bind_as : Value} {od_Works_bind_as an_Works_bind_as : Option Addr} {sl_Works_bind_as : Array (Option Value)} {f_Works_least_free_number : Addr} {oc_Works_least_free_number kV_Works_least_free_number dc_Works_least_free_number pm_Works_least_free_number cd_Works_least_free_number ct_Works_least_free_number : Value} {od_Works_least_free_number an_Works_least_free_number : Option Addr} {sl_Works_least_free_number : Array (Option Value)} {f_Works_unbind : Addr} {oc_Works_unbind kV_Works_unbind dc_Works_unbind pm_Works_unbind cd_Works_unbind ct_Works_unbind : Value} {od_Works_unbind an_Works_unbind : Option Addr} {sl_Works_unbind : Array (Option Value)} {f_Works_rebind : Addr} {oc_Works_rebind kV_Works_rebind dc_Works_rebind pm_Works_rebind cd_Works_rebind ct_Works_rebind : Value} {od_Works_rebind an_Works_rebind : Option Addr} {sl_Works_rebind : Array (Option Value)} {f_Works_send_off : Addr} {oc_Works_send_off kV_Works_send_off dc_Works_send_off pm_Works_send_off cd_Works_send_off ct_Works_send_off : Value} {od_Works_send_off an_Works_send_off : Option Addr} {sl_Works_send_off : Array (Option Value)} {f_Works_plan : Addr} {oc_Works_plan kV_Works_plan dc_Works_plan pm_Works_plan cd_Works_plan ct_Works_plan : Value} {od_Works_plan an_Works_plan : Option Addr} {sl_Works_plan : Array (Option Value)} {f_answers : Addr} {oc_answers kV_answers dc_answers pm_answers cd_answers ct_answers : Value} {od_answers an_answers : Option Addr} {sl_answers : Array (Option Value)} {t_NO_SUCH : Tok} {t_NOT_STARTED : Tok} {t_NOT_EVEN : Tok} {t_NOT_FREE : Tok} {t_WRONG : Tok} {t_FULL : Tok} {t_NONE_LEFT : Tok} {t_TOO_MUCH : Tok} {t_GREATEST_MOST : Tok} {t_GREATEST_UNIT : Tok} {t_GREATEST_KIND : Tok} {t_GREATEST_MOMENT : Tok} {t_BLADES_AT_MOST : Tok} {t_START : Tok} {a_COUNTS : Addr} {od_COUNTS : Option Addr} {nn_COUNTS : Nat} {sl_COUNTS : Array (Option Value)} {tt_COUNTS_0 tt_COUNTS_1 tt_COUNTS_2 tt_COUNTS_3 tt_COUNTS_4 tt_COUNTS_5 tt_COUNTS_6 tt_COUNTS_7 tt_COUNTS_8 tt_COUNTS_9 tt_COUNTS_10 tt_COUNTS_11 tt_COUNTS_12 tt_COUNTS_13 tt_COUNTS_14 tt_COUNTS_15 tt_COUNTS_16 tt_COUNTS_17 tt_COUNTS_18 tt_COUNTS_19 tt_COUNTS_20 tt_COUNTS_21 : Tok} {a_REPLIES : Addr} {ep_REPLIES : Nat} {hh_REPLIES_0 hh_REPLIES_1 hh_REPLIES_2 hh_REPLIES_3 hh_REPLIES_4 hh_REPLIES_5 hh_REPLIES_6 hh_REPLIES_7 hh_REPLIES_8 hh_REPLIES_9 hh_REPLIES_10 hh_REPLIES_11 hh_REPLIES_12 hh_REPLIES_13 hh_REPLIES_14 hh_REPLIES_15 hh_REPLIES_16 hh_REPLIES_17 hh_REPLIES_18 hh_REPLIES_19 hh_REPLIES_20 hh_REPLIES_21 : Int} {tt_REPLIES_0 tt_REPLIES_1 tt_REPLIES_2 tt_REPLIES_3 tt_REPLIES_4 tt_REPLIES_5 tt_REPLIES_6 tt_REPLIES_7 tt_REPLIES_8 tt_REPLIES_9 tt_REPLIES_10 tt_REPLIES_11 tt_REPLIES_12 tt_REPLIES_13 tt_REPLIES_14 tt_REPLIES_15 tt_REPLIES_16 tt_REPLIES_17 tt_REPLIES_18 tt_REPLIES_19 tt_REPLIES_20 tt_REPLIES_21 : Tok} (P_Works_plan : Addr)
    (X : K.In h) (G : h.Ns mainGlobals mg)
    (e_g_Blade : PySem.W.nsIn K mainGlobals "Blade" = some (some (.ref C_Blade)))
    (e_g_Works : PySem.W.nsIn K mainGlobals "Works" = some (some (.ref C_Works)))
    (e_p_units_needed : PySem.W.nsIn K mainGlobals "units_needed" = some (some (.ref f_units_needed)))
    (e_l_units_needed : K.lookup f_units_needed = some ⟨oc_units_needed, od_units_needed, .func (PySem.W.fnOf "units_needed" "units_needed" (defArgs s_units_needed) (defBody s_units_needed) (defScope s_units_needed) .none kV_units_needed dc_units_needed pm_units_needed an_units_needed cd_units_needed ct_units_needed), sl_units_needed⟩)
    (e_c_units_needed : PySem.W.codeIn K cd_units_needed "units_needed" = true)
    (e_k_units_needed : PySem.W.keepIn K (.ref f_units_needed) = true)
    (e_p_shortfall : PySem.W.nsIn K mainGlobals "shortfall" = some (some (.ref f_shortfall)))
    (e_l_shortfall : K.lookup f_shortfall = some ⟨oc_shortfall, od_shortfall, .func (PySem.W.fnOf "shortfall" "shortfall" (defArgs s_shortfall) (defBody s_shortfall) (defScope s_shortfall) .none kV_shortfall dc_shortfall pm_shortfall an_shortfall cd_shortfall ct_shortfall), sl_shortfall⟩)
    (e_c_shortfall : PySem.W.codeIn K cd_shortfall "shortfall" = true)
    (e_k_shortfall : PySem.W.keepIn K (.ref f_shortfall) = true)
    (e_p_how_far_off : PySem.W.nsIn K mainGlobals "how_far_off" = some (some (.ref f_how_far_off)))
    (e_l_how_far_off : K.lookup f_how_far_off = some ⟨oc_how_far_off, od_how_far_off, .func (PySem.W.fnOf "how_far_off" "how_far_off" (defArgs s_how_far_off) (defBody s_how_far_off) (defScope s_how_far_off) .none kV_how_far_off dc_how_far_off pm_how_far_off an_how_far_off cd_how_far_off ct_how_far_off), sl_how_far_off⟩)
    (e_c_how_far_off : PySem.W.codeIn K cd_how_far_off "how_far_off" = true)
    (e_k_how_far_off : PySem.W.keepIn K (.ref f_how_far_off) = true)
    (e_p_is_moment : PySem.W.nsIn K mainGlobals "is_moment" = some (some (.ref f_is_moment)))
    (e_l_is_moment : K.lookup f_is_moment = some ⟨oc_is_moment, od_is_moment, .func (PySem.W.fnOf "is_moment" "is_moment" (defArgs s_is_moment) (defBody s_is_moment) (defScope s_is_moment) .none kV_is_moment dc_is_moment pm_is_moment an_is_moment cd_is_moment ct_is_moment), sl_is_moment⟩)
    (e_c_is_moment : PySem.W.codeIn K cd_is_moment "is_moment" = true)
    (e_k_is_moment : PySem.W.keepIn K (.ref f_is_moment) = true)
    (e_p_reply_start : PySem.W.nsIn K mainGlobals "reply_start" = some (some (.ref f_reply_start)))
    (e_l_reply_start : K.lookup f_reply_start = some ⟨oc_reply_start, od_reply_start, .func (PySem.W.fnOf "reply_start" "reply_start" (defArgs s_reply_start) (defBody s_reply_start) (defScope s_reply_start) .none kV_reply_start dc_reply_start pm_reply_start an_reply_start cd_reply_start ct_reply_start), sl_reply_start⟩)
    (e_c_reply_start : PySem.W.codeIn K cd_reply_start "reply_start" = true)
    (e_k_reply_start : PySem.W.keepIn K (.ref f_reply_start) = true)
    (e_p_reply_blade : PySem.W.nsIn K mainGlobals "reply_blade" = some (some (.ref f_reply_blade)))
    (e_l_reply_blade : K.lookup f_reply_blade = some ⟨oc_reply_blade, od_reply_blade, .func (PySem.W.fnOf "reply_blade" "reply_blade" (defArgs s_reply_blade) (defBody s_reply_blade) (defScope s_reply_blade) .none kV_reply_blade dc_reply_blade pm_reply_blade an_reply_blade cd_reply_blade ct_reply_blade), sl_reply_blade⟩)
    (e_c_reply_blade : PySem.W.codeIn K cd_reply_blade "reply_blade" = true)
    (e_k_reply_blade : PySem.W.keepIn K (.ref f_reply_blade) = true)
    (e_p_refusal_unless_free : PySem.W.nsIn K mainGlobals "refusal_unless_free" = some (some (.ref f_refusal_unless_free)))
    (e_l_refusal_unless_free : K.lookup f_refusal_unless_free = some ⟨oc_refusal_unless_free, od_refusal_unless_free, .func (PySem.W.fnOf "refusal_unless_free" "refusal_unless_free" (defArgs s_refusal_unless_free) (defBody s_refusal_unless_free) (defScope s_refusal_unless_free) .none kV_refusal_unless_free dc_refusal_unless_free pm_refusal_unless_free an_refusal_unless_free cd_refusal_unless_free ct_refusal_unless_free), sl_refusal_unless_free⟩)
    (e_c_refusal_unless_free : PySem.W.codeIn K cd_refusal_unless_free "refusal_unless_free" = true)
    (e_k_refusal_unless_free : PySem.W.keepIn K (.ref f_refusal_unless_free) = true)
    (e_p_reply_weigh : PySem.W.nsIn K mainGlobals "reply_weigh" = some (some (.ref f_reply_weigh)))
    (e_l_reply_weigh : K.lookup f_reply_weigh = some ⟨oc_reply_weigh, od_reply_weigh, .func (PySem.W.fnOf "reply_weigh" "reply_weigh" (defArgs s_reply_weigh) (defBody s_reply_weigh) (defScope s_reply_weigh) .none kV_reply_weigh dc_reply_weigh pm_reply_weigh an_reply_weigh cd_reply_weigh ct_reply_weigh), sl_reply_weigh⟩)
    (e_c_reply_weigh : PySem.W.codeIn K cd_reply_weigh "reply_weigh" = true)
    (e_k_reply_weigh : PySem.W.keepIn K (.ref f_reply_weigh) = true)
    (e_p_reply_scrap : PySem.W.nsIn K mainGlobals "reply_scrap" = some (some (.ref f_reply_scrap)))
    (e_l_reply_scrap : K.lookup f_reply_scrap = some ⟨oc_reply_scrap, od_reply_scrap, .func (PySem.W.fnOf "reply_scrap" "reply_scrap" (defArgs s_reply_scrap) (defBody s_reply_scrap) (defScope s_reply_scrap) .none kV_reply_scrap dc_reply_scrap pm_reply_scrap an_reply_scrap cd_reply_scrap ct_reply_scrap), sl_reply_scrap⟩)
    (e_c_reply_scrap : PySem.W.codeIn K cd_reply_scrap "reply_scrap" = true)
    (e_k_reply_scrap : PySem.W.keepIn K (.ref f_reply_scrap) = true)
    (e_p_reply_add : PySem.W.nsIn K mainGlobals "reply_add" = some (some (.ref f_reply_add)))
    (e_l_reply_add : K.lookup f_reply_add = some ⟨oc_reply_add, od_reply_add, .func (PySem.W.fnOf "reply_add" "reply_add" (defArgs s_reply_add) (defBody s_reply_add) (defScope s_reply_add) .none kV_reply_add dc_reply_add pm_reply_add an_reply_add cd_reply_add ct_reply_add), sl_reply_add⟩)
    (e_c_reply_add : PySem.W.codeIn K cd_reply_add "reply_add" = true)
    (e_k_reply_add : PySem.W.keepIn K (.ref f_reply_add) = true)
    (e_p_reply_look : PySem.W.nsIn K mainGlobals "reply_look" = some (some (.ref f_reply_look)))
    (e_l_reply_look : K.lookup f_reply_look = some ⟨oc_reply_look, od_reply_look, .func (PySem.W.fnOf "reply_look" "reply_look" (defArgs s_reply_look) (defBody s_reply_look) (defScope s_reply_look) .none kV_reply_look dc_reply_look pm_reply_look an_reply_look cd_reply_look ct_reply_look), sl_reply_look⟩)
    (e_c_reply_look : PySem.W.codeIn K cd_reply_look "reply_look" = true)
    (e_k_reply_look : PySem.W.keepIn K (.ref f_reply_look) = true)
    (e_p_refusal_unless_several : PySem.W.nsIn K mainGlobals "refusal_unless_several" = some (some (.ref f_refusal_unless_several)))
    (e_l_refusal_unless_several : K.lookup f_refusal_unless_several = some ⟨oc_refusal_unless_several, od_refusal_unless_several, .func (PySem.W.fnOf "refusal_unless_several" "refusal_unless_several" (defArgs s_refusal_unless_several) (defBody s_refusal_unless_several) (defScope s_refusal_unless_several) .none kV_refusal_unless_several dc_refusal_unless_several pm_refusal_unless_several an_refusal_unless_several cd_refusal_unless_several ct_refusal_unless_several), sl_refusal_unless_several⟩)
    (e_c_refusal_unless_several : PySem.W.codeIn K cd_refusal_unless_several "refusal_unless_several" = true)
    (e_k_refusal_unless_several : PySem.W.keepIn K (.ref f_refusal_unless_several) = true)
    (e_p_reply_needs : PySem.W.nsIn K mainGlobals "reply_needs" = some (some (.ref f_reply_needs)))
    (e_l_reply_needs : K.lookup f_reply_needs = some ⟨oc_reply_needs, od_reply_needs, .func (PySem.W.fnOf "reply_needs" "reply_needs" (defArgs s_reply_needs) (defBody s_reply_needs) (defScope s_reply_needs) .none kV_reply_needs dc_reply_needs pm_reply_needs an_reply_needs cd_reply_needs ct_reply_needs), sl_reply_needs⟩)
    (e_c_reply_needs : PySem.W.codeIn K cd_reply_needs "reply_needs" = true)
    (e_k_reply_needs : PySem.W.keepIn K (.ref f_reply_needs) = true)
    (e_p_reply_off : PySem.W.nsIn K mainGlobals "reply_off" = some (some (.ref f_reply_off)))
    (e_l_reply_off : K.lookup f_reply_off = some ⟨oc_reply_off, od_reply_off, .func (PySem.W.fnOf "reply_off" "reply_off" (defArgs s_reply_off) (defBody s_reply_off) (defScope s_reply_off) .none kV_reply_off dc_reply_off pm_reply_off an_reply_off cd_reply_off ct_reply_off), sl_reply_off⟩)
    (e_c_reply_off : PySem.W.codeIn K cd_reply_off "reply_off" = true)
    (e_k_reply_off : PySem.W.keepIn K (.ref f_reply_off) = true)
    (e_p_reply_match : PySem.W.nsIn K mainGlobals "reply_match" = some (some (.ref f_reply_match)))
    (e_l_reply_match : K.lookup f_reply_match = some ⟨oc_reply_match, od_reply_match, .func (PySem.W.fnOf "reply_match" "reply_match" (defArgs s_reply_match) (defBody s_reply_match) (defScope s_reply_match) .none kV_reply_match dc_reply_match pm_reply_match an_reply_match cd_reply_match ct_reply_match), sl_reply_match⟩)
    (e_c_reply_match : PySem.W.codeIn K cd_reply_match "reply_match" = true)
    (e_k_reply_match : PySem.W.keepIn K (.ref f_reply_match) = true)
    (e_p_reply_set : PySem.W.nsIn K mainGlobals "reply_set" = some (some (.ref f_reply_set)))
    (e_l_reply_set : K.lookup f_reply_set = some ⟨oc_reply_set, od_reply_set, .func (PySem.W.fnOf "reply_set" "reply_set" (defArgs s_reply_set) (defBody s_reply_set) (defScope s_reply_set) .none kV_reply_set dc_reply_set pm_reply_set an_reply_set cd_reply_set ct_reply_set), sl_reply_set⟩)
    (e_c_reply_set : PySem.W.codeIn K cd_reply_set "reply_set" = true)
    (e_k_reply_set : PySem.W.keepIn K (.ref f_reply_set) = true)
    (e_p_reply_part : PySem.W.nsIn K mainGlobals "reply_part" = some (some (.ref f_reply_part)))
    (e_l_reply_part : K.lookup f_reply_part = some ⟨oc_reply_part, od_reply_part, .func (PySem.W.fnOf "reply_part" "reply_part" (defArgs s_reply_part) (defBody s_reply_part) (defScope s_reply_part) .none kV_reply_part dc_reply_part pm_reply_part an_reply_part cd_reply_part ct_reply_part), sl_reply_part⟩)
    (e_c_reply_part : PySem.W.codeIn K cd_reply_part "reply_part" = true)
    (e_k_reply_part : PySem.W.keepIn K (.ref f_reply_part) = true)
    (e_p_best_beside : PySem.W.nsIn K mainGlobals "best_beside" = some (some (.ref f_best_beside)))
    (e_l_best_beside : K.lookup f_best_beside = some ⟨oc_best_beside, od_best_beside, .func (PySem.W.fnOf "best_beside" "best_beside" (defArgs s_best_beside) (defBody s_best_beside) (defScope s_best_beside) .none kV_best_beside dc_best_beside pm_best_beside an_best_beside cd_best_beside ct_best_beside), sl_best_beside⟩)
    (e_c_best_beside : PySem.W.codeIn K cd_best_beside "best_beside" = true)
    (e_k_best_beside : PySem.W.keepIn K (.ref f_best_beside) = true)
    (e_p_reply_third : PySem.W.nsIn K mainGlobals "reply_third" = some (some (.ref f_reply_third)))
    (e_l_reply_third : K.lookup f_reply_third = some ⟨oc_reply_third, od_reply_third, .func (PySem.W.fnOf "reply_third" "reply_third" (defArgs s_reply_third) (defBody s_reply_third) (defScope s_reply_third) .none kV_reply_third dc_reply_third pm_reply_third an_reply_third cd_reply_third ct_reply_third), sl_reply_third⟩)
    (e_c_reply_third : PySem.W.codeIn K cd_reply_third "reply_third" = true)
    (e_k_reply_third : PySem.W.keepIn K (.ref f_reply_third) = true)
    (e_p_reply_spare : PySem.W.nsIn K mainGlobals "reply_spare" = some (some (.ref f_reply_spare)))
    (e_l_reply_spare : K.lookup f_reply_spare = some ⟨oc_reply_spare, od_reply_spare, .func (PySem.W.fnOf "reply_spare" "reply_spare" (defArgs s_reply_spare) (defBody s_reply_spare) (defScope s_reply_spare) .none kV_reply_spare dc_reply_spare pm_reply_spare an_reply_spare cd_reply_spare ct_reply_spare), sl_reply_spare⟩)
    (e_c_reply_spare : PySem.W.codeIn K cd_reply_spare "reply_spare" = true)
    (e_k_reply_spare : PySem.W.keepIn K (.ref f_reply_spare) = true)
    (e_p_reply_exchange : PySem.W.nsIn K mainGlobals "reply_exchange" = some (some (.ref f_reply_exchange)))
    (e_l_reply_exchange : K.lookup f_reply_exchange = some ⟨oc_reply_exchange, od_reply_exchange, .func (PySem.W.fnOf "reply_exchange" "reply_exchange" (defArgs s_reply_exchange) (defBody s_reply_exchange) (defScope s_reply_exchange) .none kV_reply_exchange dc_reply_exchange pm_reply_exchange an_reply_exchange cd_reply_exchange ct_reply_exchange), sl_reply_exchange⟩)
    (e_c_reply_exchange : PySem.W.codeIn K cd_reply_exchange "reply_exchange" = true)
    (e_k_reply_exchange : PySem.W.keepIn K (.ref f_reply_exchange) = true)
    (e_p_reply_balanced : PySem.W.nsIn K mainGlobals "reply_balanced" = some (some (.ref f_reply_balanced)))
    (e_l_reply_balanced : K.lookup f_reply_balanced = some ⟨oc_reply_balanced, od_reply_balanced, .func (PySem.W.fnOf "reply_balanced" "reply_balanced" (defArgs s_reply_balanced) (defBody s_reply_balanced) (defScope s_reply_balanced) .none kV_reply_balanced dc_reply_balanced pm_reply_balanced an_reply_balanced cd_reply_balanced ct_reply_balanced), sl_reply_balanced⟩)
    (e_c_reply_balanced : PySem.W.codeIn K cd_reply_balanced "reply_balanced" = true)
    (e_k_reply_balanced : PySem.W.keepIn K (.ref f_reply_balanced) = true)
    (e_p_reply_ship : PySem.W.nsIn K mainGlobals "reply_ship" = some (some (.ref f_reply_ship)))
    (e_l_reply_ship : K.lookup f_reply_ship = some ⟨oc_reply_ship, od_reply_ship, .func (PySem.W.fnOf "reply_ship" "reply_ship" (defArgs s_reply_ship) (defBody s_reply_ship) (defScope s_reply_ship) .none kV_reply_ship dc_reply_ship pm_reply_ship an_reply_ship cd_reply_ship ct_reply_ship), sl_reply_ship⟩)
    (e_c_reply_ship : PySem.W.codeIn K cd_reply_ship "reply_ship" = true)
    (e_k_reply_ship : PySem.W.keepIn K (.ref f_reply_ship) = true)
    (e_p_reply_plan : PySem.W.nsIn K mainGlobals "reply_plan" = some (some (.ref f_reply_plan)))
    (e_l_reply_plan : K.lookup f_reply_plan = some ⟨oc_reply_plan, od_reply_plan, .func (PySem.W.fnOf "reply_plan" "reply_plan" (defArgs s_reply_plan) (defBody s_reply_plan) (defScope s_reply_plan) .none kV_reply_plan dc_reply_plan pm_reply_plan an_reply_plan cd_reply_plan ct_reply_plan), sl_reply_plan⟩)
    (e_c_reply_plan : PySem.W.codeIn K cd_reply_plan "reply_plan" = true)
    (e_k_reply_plan : PySem.W.keepIn K (.ref f_reply_plan) = true)
    (e_p_reply_least : PySem.W.nsIn K mainGlobals "reply_least" = some (some (.ref f_reply_least)))
    (e_l_reply_least : K.lookup f_reply_least = some ⟨oc_reply_least, od_reply_least, .func (PySem.W.fnOf "reply_least" "reply_least" (defArgs s_reply_least) (defBody s_reply_least) (defScope s_reply_least) .none kV_reply_least dc_reply_least pm_reply_least an_reply_least cd_reply_least ct_reply_least), sl_reply_least⟩)
    (e_c_reply_least : PySem.W.codeIn K cd_reply_least "reply_least" = true)
    (e_k_reply_least : PySem.W.keepIn K (.ref f_reply_least) = true)
    (e_p_reply_follow : PySem.W.nsIn K mainGlobals "reply_follow" = some (some (.ref f_reply_follow)))
    (e_l_reply_follow : K.lookup f_reply_follow = some ⟨oc_reply_follow, od_reply_follow, .func (PySem.W.fnOf "reply_follow" "reply_follow" (defArgs s_reply_follow) (defBody s_reply_follow) (defScope s_reply_follow) .none kV_reply_follow dc_reply_follow pm_reply_follow an_reply_follow cd_reply_follow ct_reply_follow), sl_reply_follow⟩)
    (e_c_reply_follow : PySem.W.codeIn K cd_reply_follow "reply_follow" = true)
    (e_k_reply_follow : PySem.W.keepIn K (.ref f_reply_follow) = true)
    (e_p_reply_free : PySem.W.nsIn K mainGlobals "reply_free" = some (some (.ref f_reply_free)))
    (e_l_reply_free : K.lookup f_reply_free = some ⟨oc_reply_free, od_reply_free, .func (PySem.W.fnOf "reply_free" "reply_free" (defArgs s_reply_free) (defBody s_reply_free) (defScope s_reply_free) .none kV_reply_free dc_reply_free pm_reply_free an_reply_free cd_reply_free ct_reply_free), sl_reply_free⟩)
    (e_c_reply_free : PySem.W.codeIn K cd_reply_free "reply_free" = true)
    (e_k_reply_free : PySem.W.keepIn K (.ref f_reply_free) = true)
    (e_p_reply_sums : PySem.W.nsIn K mainGlobals "reply_sums" = some (some (.ref f_reply_sums)))
    (e_l_reply_sums : K.lookup f_reply_sums = some ⟨oc_reply_sums, od_reply_sums, .func (PySem.W.fnOf "reply_sums" "reply_sums" (defArgs s_reply_sums) (defBody s_reply_sums) (defScope s_reply_sums) .none kV_reply_sums dc_reply_sums pm_reply_sums an_reply_sums cd_reply_sums ct_reply_sums), sl_reply_sums⟩)
    (e_c_reply_sums : PySem.W.codeIn K cd_reply_sums "reply_sums" = true)
    (e_k_reply_sums : PySem.W.keepIn K (.ref f_reply_sums) = true)
    (e_p_reply_state : PySem.W.nsIn K mainGlobals "reply_state" = some (some (.ref f_reply_state)))
    (e_l_reply_state : K.lookup f_reply_state = some ⟨oc_reply_state, od_reply_state, .func (PySem.W.fnOf "reply_state" "reply_state" (defArgs s_reply_state) (defBody s_reply_state) (defScope s_reply_state) .none kV_reply_state dc_reply_state pm_reply_state an_reply_state cd_reply_state ct_reply_state), sl_reply_state⟩)
    (e_c_reply_state : PySem.W.codeIn K cd_reply_state "reply_state" = true)
    (e_k_reply_state : PySem.W.keepIn K (.ref f_reply_state) = true)
    (e_p_reply_to : PySem.W.nsIn K mainGlobals "reply_to" = some (some (.ref f_reply_to)))
    (e_l_reply_to : K.lookup f_reply_to = some ⟨oc_reply_to, od_reply_to, .func (PySem.W.fnOf "reply_to" "reply_to" (defArgs s_reply_to) (defBody s_reply_to) (defScope s_reply_to) .none kV_reply_to dc_reply_to pm_reply_to an_reply_to cd_reply_to ct_reply_to), sl_reply_to⟩)
    (e_c_reply_to : PySem.W.codeIn K cd_reply_to "reply_to" = true)
    (e_k_reply_to : PySem.W.keepIn K (.ref f_reply_to) = true)
    (e_p_Blade_init : PySem.W.findIn K (.ref C_Blade) "__init__" = some (some (.ref f_Blade_init)))
    (e_i_Blade_init : PySem.W.isFn K (.ref f_Blade_init) = true)
    (e_l_Blade_init : K.lookup f_Blade_init = some ⟨oc_Blade_init, od_Blade_init, .func (PySem.W.fnOf "__init__" "Blade.__init__" (defArgs s_Blade_init) (defBody s_Blade_init) (defScope s_Blade_init) .none kV_Blade_init dc_Blade_init pm_Blade_init an_Blade_init cd_Blade_init ct_Blade_init), sl_Blade_init⟩)
    (e_c_Blade_init : PySem.W.codeIn K cd_Blade_init "Blade.__init__" = true)
    (e_k_Blade_init : PySem.W.keepIn K (.ref f_Blade_init) = true)
    (e_p_Blade_pull : PySem.W.findIn K (.ref C_Blade) "pull" = some (some (.ref f_Blade_pull)))
    (e_i_Blade_pull : PySem.W.isFn K (.ref f_Blade_pull) = true)
    (e_l_Blade_pull : K.lookup f_Blade_pull = some ⟨oc_Blade_pull, od_Blade_pull, .func (PySem.W.fnOf "pull" "Blade.pull" (defArgs s_Blade_pull) (defBody s_Blade_pull) (defScope s_Blade_pull) .none kV_Blade_pull dc_Blade_pull pm_Blade_pull an_Blade_pull cd_Blade_pull ct_Blade_pull), sl_Blade_pull⟩)
    (e_c_Blade_pull : PySem.W.codeIn K cd_Blade_pull "Blade.pull" = true)
    (e_k_Blade_pull : PySem.W.keepIn K (.ref f_Blade_pull) = true)
    (e_p_Blade_is_free : PySem.W.findIn K (.ref C_Blade) "is_free" = some (some (.ref f_Blade_is_free)))
    (e_i_Blade_is_free : PySem.W.isFn K (.ref f_Blade_is_free) = true)
    (e_l_Blade_is_free : K.lookup f_Blade_is_free = some ⟨oc_Blade_is_free, od_Blade_is_free, .func (PySem.W.fnOf "is_free" "Blade.is_free" (defArgs s_Blade_is_free) (defBody s_Blade_is_free) (defScope s_Blade_is_free) .none kV_Blade_is_free dc_Blade_is_free pm_Blade_is_free an_Blade_is_free cd_Blade_is_free ct_Blade_is_free), sl_Blade_is_free⟩)
    (e_c_Blade_is_free : PySem.W.codeIn K cd_Blade_is_free "Blade.is_free" = true)
    (e_k_Blade_is_free : PySem.W.keepIn K (.ref f_Blade_is_free) = true)
    (e_p_Blade_weigh_anew : PySem.W.findIn K (.ref C_Blade) "weigh_anew" = some (some (.ref f_Blade_weigh_anew)))
    (e_i_Blade_weigh_anew : PySem.W.isFn K (.ref f_Blade_weigh_anew) = true)
    (e_l_Blade_weigh_anew : K.lookup f_Blade_weigh_anew = some ⟨oc_Blade_weigh_anew, od_Blade_weigh_anew, .func (PySem.W.fnOf "weigh_anew" "Blade.weigh_anew" (defArgs s_Blade_weigh_anew) (defBody s_Blade_weigh_anew) (defScope s_Blade_weigh_anew) .none kV_Blade_weigh_anew dc_Blade_weigh_anew pm_Blade_weigh_anew an_Blade_weigh_anew cd_Blade_weigh_anew ct_Blade_weigh_anew), sl_Blade_weigh_anew⟩)
    (e_c_Blade_weigh_anew : PySem.W.codeIn K cd_Blade_weigh_anew "Blade.weigh_anew" = true)
    (e_k_Blade_weigh_anew : PySem.W.keepIn K (.ref f_Blade_weigh_anew) = true)
    (e_p_Works_init : PySem.W.findIn K (.ref C_Works) "__init__" = some (some (.ref f_Works_init)))
    (e_i_Works_init : PySem.W.isFn K (.ref f_Works_init) = true)
    (e_l_Works_init : K.lookup f_Works_init = some ⟨oc_Works_init, od_Works_init, .func (PySem.W.fnOf "__init__" "Works.__init__" (defArgs s_Works_init) (defBody s_Works_init) (defScope s_Works_init) .none kV_Works_init dc_Works_init pm_Works_init an_Works_init cd_Works_init ct_Works_init), sl_Works_init⟩)
    (e_c_Works_init : PySem.W.codeIn K cd_Works_init "Works.__init__" = true)
    (e_k_Works_init : PySem.W.keepIn K (.ref f_Works_init) = true)
    (e_p_Works_begin : PySem.W.findIn K (.ref C_Works) "begin" = some (some (.ref f_Works_begin)))
    (e_i_Works_begin : PySem.W.isFn K (.ref f_Works_begin) = true)
    (e_l_Works_begin : K.lookup f_Works_begin = some ⟨oc_Works_begin, od_Works_begin, .func (PySem.W.fnOf "begin" "Works.begin" (defArgs s_Works_begin) (defBody s_Works_begin) (defScope s_Works_begin) .none kV_Works_begin dc_Works_begin pm_Works_begin an_Works_begin cd_Works_begin ct_Works_begin), sl_Works_begin⟩)
    (e_c_Works_begin : PySem.W.codeIn K cd_Works_begin "Works.begin" = true)
    (e_k_Works_begin : PySem.W.keepIn K (.ref f_Works_begin) = true)
    (e_p_Works_take_in : PySem.W.findIn K (.ref C_Works) "take_in" = some (some (.ref f_Works_take_in)))
    (e_i_Works_take_in : PySem.W.isFn K (.ref f_Works_take_in) = true)
    (e_l_Works_take_in : K.lookup f_Works_take_in = some ⟨oc_Works_take_in, od_Works_take_in, .func (PySem.W.fnOf "take_in" "Works.take_in" (defArgs s_Works_take_in) (defBody s_Works_take_in) (defScope s_Works_take_in) .none kV_Works_take_in dc_Works_take_in pm_Works_take_in an_Works_take_in cd_Works_take_in ct_Works_take_in), sl_Works_take_in⟩)
    (e_c_Works_take_in : PySem.W.codeIn K cd_Works_take_in "Works.take_in" = true)
    (e_k_Works_take_in : PySem.W.keepIn K (.ref f_Works_take_in) = true)
    (e_p_Works_has_blades : PySem.W.findIn K (.ref C_Works) "has_blades" = some (some (.ref f_Works_has_blades)))
    (e_i_Works_has_blades : PySem.W.isFn K (.ref f_Works_has_blades) = true)
    (e_l_Works_has_blades : K.lookup f_Works_has_blades = some ⟨oc_Works_has_blades, od_Works_has_blades, .func (PySem.W.fnOf "has_blades" "Works.has_blades" (defArgs s_Works_has_blades) (defBody s_Works_has_blades) (defScope s_Works_has_blades) .none kV_Works_has_blades dc_Works_has_blades pm_Works_has_blades an_Works_has_blades cd_Works_has_blades ct_Works_has_blades), sl_Works_has_blades⟩)
    (e_c_Works_has_blades : PySem.W.codeIn K cd_Works_has_blades "Works.has_blades" = true)
    (e_k_Works_has_blades : PySem.W.keepIn K (.ref f_Works_has_blades) = true)
    (e_p_Works_of_one_kind : PySem.W.findIn K (.ref C_Works) "of_one_kind" = some (some (.ref f_Works_of_one_kind)))
    (e_i_Works_of_one_kind : PySem.W.isFn K (.ref f_Works_of_one_kind) = true)
    (e_l_Works_of_one_kind : K.lookup f_Works_of_one_kind = some ⟨oc_Works_of_one_kind, od_Works_of_one_kind, .func (PySem.W.fnOf "of_one_kind" "Works.of_one_kind" (defArgs s_Works_of_one_kind) (defBody s_Works_of_one_kind) (defScope s_Works_of_one_kind) .none kV_Works_of_one_kind dc_Works_of_one_kind pm_Works_of_one_kind an_Works_of_one_kind cd_Works_of_one_kind ct_Works_of_one_kind), sl_Works_of_one_kind⟩)
    (e_c_Works_of_one_kind : PySem.W.codeIn K cd_Works_of_one_kind "Works.of_one_kind" = true)
    (e_k_Works_of_one_kind : PySem.W.keepIn K (.ref f_Works_of_one_kind) = true)
    (e_p_Works_all_free : PySem.W.findIn K (.ref C_Works) "all_free" = some (some (.ref f_Works_all_free)))
    (e_i_Works_all_free : PySem.W.isFn K (.ref f_Works_all_free) = true)
    (e_l_Works_all_free : K.lookup f_Works_all_free = some ⟨oc_Works_all_free, od_Works_all_free, .func (PySem.W.fnOf "all_free" "Works.all_free" (defArgs s_Works_all_free) (defBody s_Works_all_free) (defScope s_Works_all_free) .none kV_Works_all_free dc_Works_all_free pm_Works_all_free an_Works_all_free cd_Works_all_free ct_Works_all_free), sl_Works_all_free⟩)
    (e_c_Works_all_free : PySem.W.codeIn K cd_Works_all_free "Works.all_free" = true)
    (e_k_Works_all_free : PySem.W.keepIn K (.ref f_Works_all_free) = true)
    (e_p_Works_free_of_kind : PySem.W.findIn K (.ref C_Works) "free_of_kind" = some (some (.ref f_Works_free_of_kind)))
    (e_i_Works_free_of_kind : PySem.W.isFn K (.ref f_Works_free_of_kind) = true)
    (e_l_Works_free_of_kind : K.lookup f_Works_free_of_kind = some ⟨oc_Works_free_of_kind, od_Works_free_of_kind, .func (PySem.W.fnOf "free_of_kind" "Works.free_of_kind" (defArgs s_Works_free_of_kind) (defBody s_Works_free_of_kind) (defScope s_Works_free_of_kind) .none kV_Works_free_of_kind dc_Works_free_of_kind pm_Works_free_of_kind an_Works_free_of_kind cd_Works_free_of_kind ct_Works_free_of_kind), sl_Works_free_of_kind⟩)
    (e_c_Works_free_of_kind : PySem.W.codeIn K cd_Works_free_of_kind "Works.free_of_kind" = true)
    (e_k_Works_free_of_kind : PySem.W.keepIn K (.ref f_Works_free_of_kind) = true)
    (e_p_Works_pulls : PySem.W.findIn K (.ref C_Works) "pulls" = some (some (.ref f_Works_pulls)))
    (e_i_Works_pulls : PySem.W.isFn K (.ref f_Works_pulls) = true)
    (e_l_Works_pulls : K.lookup f_Works_pulls = some ⟨oc_Works_pulls, od_Works_pulls, .func (PySem.W.fnOf "pulls" "Works.pulls" (defArgs s_Works_pulls) (defBody s_Works_pulls) (defScope s_Works_pulls) .none kV_Works_pulls dc_Works_pulls pm_Works_pulls an_Works_pulls cd_Works_pulls ct_Works_pulls), sl_Works_pulls⟩)
    (e_c_Works_pulls : PySem.W.codeIn K cd_Works_pulls "Works.pulls" = true)
    (e_k_Works_pulls : PySem.W.keepIn K (.ref f_Works_pulls) = true)
    (e_p_Works_units_for : PySem.W.findIn K (.ref C_Works) "units_for" = some (some (.ref f_Works_units_for)))
    (e_i_Works_units_for : PySem.W.isFn K (.ref f_Works_units_for) = true)
    (e_l_Works_units_for : K.lookup f_Works_units_for = some ⟨oc_Works_units_for, od_Works_units_for, .func (PySem.W.fnOf "units_for" "Works.units_for" (defArgs s_Works_units_for) (defBody s_Works_units_for) (defScope s_Works_units_for) .none kV_Works_units_for dc_Works_units_for pm_Works_units_for an_Works_units_for cd_Works_units_for ct_Works_units_for), sl_Works_units_for⟩)
    (e_c_Works_units_for : PySem.W.codeIn K cd_Works_units_for "Works.units_for" = true)
    (e_k_Works_units_for : PySem.W.keepIn K (.ref f_Works_units_for) = true)
    (e_p_Works_may_be_set : PySem.W.findIn K (.ref C_Works) "may_be_set" = some (some (.ref f_Works_may_be_set)))
    (e_i_Works_may_be_set : PySem.W.isFn K (.ref f_Works_may_be_set) = true)
    (e_l_Works_may_be_set : K.lookup f_Works_may_be_set = some ⟨oc_Works_may_be_set, od_Works_may_be_set, .func (PySem.W.fnOf "may_be_set" "Works.may_be_set" (defArgs s_Works_may_be_set) (defBody s_Works_may_be_set) (defScope s_Works_may_be_set) .none kV_Works_may_be_set dc_Works_may_be_set pm_Works_may_be_set an_Works_may_be_set cd_Works_may_be_set ct_Works_may_be_set), sl_Works_may_be_set⟩)
    (e_c_Works_may_be_set : PySem.W.codeIn K cd_Works_may_be_set "Works.may_be_set" = true)
    (e_k_Works_may_be_set : PySem.W.keepIn K (.ref f_Works_may_be_set) = true)
    (e_p_Works_needs_nothing : PySem.W.findIn K (.ref C_Works) "needs_nothing" = some (some (.ref f_Works_needs_nothing)))
    (e_i_Works_needs_nothing : PySem.W.isFn K (.ref f_Works_needs_nothing) = true)
    (e_l_Works_needs_nothing : K.lookup f_Works_needs_nothing = some ⟨oc_Works_needs_nothing, od_Works_needs_nothing, .func (PySem.W.fnOf "needs_nothing" "Works.needs_nothing" (defArgs s_Works_needs_nothing) (defBody s_Works_needs_nothing) (defScope s_Works_needs_nothing) .none kV_Works_needs_nothing dc_Works_needs_nothing pm_Works_needs_nothing an_Works_needs_nothing cd_Works_needs_nothing ct_Works_needs_nothing), sl_Works_needs_nothing⟩)
    (e_c_Works_needs_nothing : PySem.W.codeIn K cd_Works_needs_nothing "Works.needs_nothing" = true)
    (e_k_Works_needs_nothing : PySem.W.keepIn K (.ref f_Works_needs_nothing) = true)
    (e_p_Works_even_out : PySem.W.findIn K (.ref C_Works) "even_out" = some (some (.ref f_Works_even_out)))
    (e_i_Works_even_out : PySem.W.isFn K (.ref f_Works_even_out) = true)
    (e_l_Works_even_out : K.lookup f_Works_even_out = some ⟨oc_Works_even_out, od_Works_even_out, .func (PySem.W.fnOf "even_out" "Works.even_out" (defArgs s_Works_even_out) (defBody s_Works_even_out) (defScope s_Works_even_out) .none kV_Works_even_out dc_Works_even_out pm_Works_even_out an_Works_even_out cd_Works_even_out ct_Works_even_out), sl_Works_even_out⟩)
    (e_c_Works_even_out : PySem.W.codeIn K cd_Works_even_out "Works.even_out" = true)
    (e_k_Works_even_out : PySem.W.keepIn K (.ref f_Works_even_out) = true)
    (e_p_Works_bind : PySem.W.findIn K (.ref C_Works) "bind" = some (some (.ref f_Works_bind)))
    (e_i_Works_bind : PySem.W.isFn K (.ref f_Works_bind) = true)
    (e_l_Works_bind : K.lookup f_Works_bind = some ⟨oc_Works_bind, od_Works_bind, .func (PySem.W.fnOf "bind" "Works.bind" (defArgs s_Works_bind) (defBody s_Works_bind) (defScope s_Works_bind) .none kV_Works_bind dc_Works_bind pm_Works_bind an_Works_bind cd_Works_bind ct_Works_bind), sl_Works_bind⟩)
    (e_c_Works_bind : PySem.W.codeIn K cd_Works_bind "Works.bind" = true)
    (e_k_Works_bind : PySem.W.keepIn K (.ref f_Works_bind) = true)
    (e_p_Works_bind_as : PySem.W.findIn K (.ref C_Works) "bind_as" = some (some (.ref f_Works_bind_as)))
    (e_i_Works_bind_as : PySem.W.isFn K (.ref f_Works_bind_as) = true)
    (e_l_Works_bind_as : K.lookup f_Works_bind_as = some ⟨oc_Works_bind_as, od_Works_bind_as, .func (PySem.W.fnOf "bind_as" "Works.bind_as" (defArgs s_Works_bind_as) (defBody s_Works_bind_as) (defScope s_Works_bind_as) .none kV_Works_bind_as dc_Works_bind_as pm_Works_bind_as an_Works_bind_as cd_Works_bind_as ct_Works_bind_as), sl_Works_bind_as⟩)
    (e_c_Works_bind_as : PySem.W.codeIn K cd_Works_bind_as "Works.bind_as" = true)
    (e_k_Works_bind_as : PySem.W.keepIn K (.ref f_Works_bind_as) = true)
    (e_p_Works_least_free_number : PySem.W.findIn K (.ref C_Works) "least_free_number" = some (some (.ref f_Works_least_free_number)))
    (e_i_Works_least_free_number : PySem.W.isFn K (.ref f_Works_least_free_number) = true)
    (e_l_Works_least_free_number : K.lookup f_Works_least_free_number = some ⟨oc_Works_least_free_number, od_Works_least_free_number, .func (PySem.W.fnOf "least_free_number" "Works.least_free_number" (defArgs s_Works_least_free_number) (defBody s_Works_least_free_number) (defScope s_Works_least_free_number) .none kV_Works_least_free_number dc_Works_least_free_number pm_Works_least_free_number an_Works_least_free_number cd_Works_least_free_number ct_Works_least_free_number), sl_Works_least_free_number⟩)
    (e_c_Works_least_free_number : PySem.W.codeIn K cd_Works_least_free_number "Works.least_free_number" = true)
    (e_k_Works_least_free_number : PySem.W.keepIn K (.ref f_Works_least_free_number) = true)
    (e_p_Works_unbind : PySem.W.findIn K (.ref C_Works) "unbind" = some (some (.ref f_Works_unbind)))
    (e_i_Works_unbind : PySem.W.isFn K (.ref f_Works_unbind) = true)
    (e_l_Works_unbind : K.lookup f_Works_unbind = some ⟨oc_Works_unbind, od_Works_unbind, .func (PySem.W.fnOf "unbind" "Works.unbind" (defArgs s_Works_unbind) (defBody s_Works_unbind) (defScope s_Works_unbind) .none kV_Works_unbind dc_Works_unbind pm_Works_unbind an_Works_unbind cd_Works_unbind ct_Works_unbind), sl_Works_unbind⟩)
    (e_c_Works_unbind : PySem.W.codeIn K cd_Works_unbind "Works.unbind" = true)
    (e_k_Works_unbind : PySem.W.keepIn K (.ref f_Works_unbind) = true)
    (e_p_Works_rebind : PySem.W.findIn K (.ref C_Works) "rebind" = some (some (.ref f_Works_rebind)))
    (e_i_Works_rebind : PySem.W.isFn K (.ref f_Works_rebind) = true)
    (e_l_Works_rebind : K.lookup f_Works_rebind = some ⟨oc_Works_rebind, od_Works_rebind, .func (PySem.W.fnOf "rebind" "Works.rebind" (defArgs s_Works_rebind) (defBody s_Works_rebind) (defScope s_Works_rebind) .none kV_Works_rebind dc_Works_rebind pm_Works_rebind an_Works_rebind cd_Works_rebind ct_Works_rebind), sl_Works_rebind⟩)
    (e_c_Works_rebind : PySem.W.codeIn K cd_Works_rebind "Works.rebind" = true)
    (e_k_Works_rebind : PySem.W.keepIn K (.ref f_Works_rebind) = true)
    (e_p_Works_send_off : PySem.W.findIn K (.ref C_Works) "send_off" = some (some (.ref f_Works_send_off)))
    (e_i_Works_send_off : PySem.W.isFn K (.ref f_Works_send_off) = true)
    (e_l_Works_send_off : K.lookup f_Works_send_off = some ⟨oc_Works_send_off, od_Works_send_off, .func (PySem.W.fnOf "send_off" "Works.send_off" (defArgs s_Works_send_off) (defBody s_Works_send_off) (defScope s_Works_send_off) .none kV_Works_send_off dc_Works_send_off pm_Works_send_off an_Works_send_off cd_Works_send_off ct_Works_send_off), sl_Works_send_off⟩)
    (e_c_Works_send_off : PySem.W.codeIn K cd_Works_send_off "Works.send_off" = true)
    (e_k_Works_send_off : PySem.W.keepIn K (.ref f_Works_send_off) = true)
    (e_p_Works_plan : PySem.W.findIn K (.ref C_Works) "plan" = some (some (.ref f_Works_plan)))
    (e_i_Works_plan : PySem.W.isFn K (.ref f_Works_plan) = true)
    (e_l_Works_plan : K.lookup f_Works_plan = some ⟨oc_Works_plan, od_Works_plan, .func (PySem.W.fnOf "plan" "Works.plan" (defArgs s_Works_plan) (defBody s_Works_plan) (defScope s_Works_plan) .none kV_Works_plan dc_Works_plan pm_Works_plan an_Works_plan cd_Works_plan ct_Works_plan), sl_Works_plan⟩)
    (e_c_Works_plan : PySem.W.codeIn K cd_Works_plan "Works.plan" = true)
    (e_k_Works_plan : PySem.W.keepIn K (.ref f_Works_plan) = true)
    (e_p_answers : PySem.W.nsIn K mainGlobals "answers" = some (some (.ref f_answers)))
    (e_l_answers : K.lookup f_answers = some ⟨oc_answers, od_answers, .func (PySem.W.fnOf "answers" "answers" (defArgs s_answers) (defBody s_answers) (defScope s_answers) .none kV_answers dc_answers pm_answers an_answers cd_answers ct_answers), sl_answers⟩)
    (e_c_answers : PySem.W.codeIn K cd_answers "answers" = true)
    (e_k_answers : PySem.W.keepIn K (.ref f_answers) = true)
    (e_t_Works_plan : codeV K cd_Works_plan P_Works_plan = true)
    (e_pg_Blade : PySem.W.plainGet K C_Blade Str.empty = true)
    (e_hd_Blade : PySem.W.hasDictIn K C_Blade = true)
    (e_po_Blade : PySem.W.plainOver K C_Blade = true)
    (e_sa_Blade : PySem.W.findIn K (.ref C_Blade) "__setattr__" = some (some (.builtin "object.__setattr__")))
    (e_mk_Blade : PySem.W.makesIn K C_Blade = true)
    (e_kc_Blade : PySem.W.keepIn K (.ref C_Blade) = true)
    (e_na_Blade_kind : PySem.W.findIn K (.ref C_Blade) "kind" = some none)
    (e_na_Blade_moment : PySem.W.findIn K (.ref C_Blade) "moment" = some none)
    (e_na_Blade_added : PySem.W.findIn K (.ref C_Blade) "added" = some none)
    (e_na_Blade_gone : PySem.W.findIn K (.ref C_Blade) "gone" = some none)
    (e_na_Blade_set_and_one : PySem.W.findIn K (.ref C_Blade) "set_and_one" = some none)
    (e_pg_Works : PySem.W.plainGet K C_Works Str.empty = true)
    (e_hd_Works : PySem.W.hasDictIn K C_Works = true)
    (e_po_Works : PySem.W.plainOver K C_Works = true)
    (e_sa_Works : PySem.W.findIn K (.ref C_Works) "__setattr__" = some (some (.builtin "object.__setattr__")))
    (e_mk_Works : PySem.W.makesIn K C_Works = true)
    (e_kc_Works : PySem.W.keepIn K (.ref C_Works) = true)
    (e_na_Works_started : PySem.W.findIn K (.ref C_Works) "started" = some none)
    (e_na_Works_most : PySem.W.findIn K (.ref C_Works) "most" = some none)
    (e_na_Works_unit : PySem.W.findIn K (.ref C_Works) "unit" = some none)
    (e_na_Works_blades : PySem.W.findIn K (.ref C_Works) "blades" = some none)
    (e_na_Works_trios : PySem.W.findIn K (.ref C_Works) "trios" = some none)
    (e_g_NO_SUCH : PySem.W.nsIn K mainGlobals "NO_SUCH" = some (some (.int (-2) t_NO_SUCH)))
    (e_g_NOT_STARTED : PySem.W.nsIn K mainGlobals "NOT_STARTED" = some (some (.int (-11) t_NOT_STARTED)))
    (e_g_NOT_EVEN : PySem.W.nsIn K mainGlobals "NOT_EVEN" = some (some (.int (-13) t_NOT_EVEN)))
    (e_g_NOT_FREE : PySem.W.nsIn K mainGlobals "NOT_FREE" = some (some (.int (-16) t_NOT_FREE)))
    (e_g_WRONG : PySem.W.nsIn K mainGlobals "WRONG" = some (some (.int (-22) t_WRONG)))
    (e_g_FULL : PySem.W.nsIn K mainGlobals "FULL" = some (some (.int (-28) t_FULL)))
    (e_g_NONE_LEFT : PySem.W.nsIn K mainGlobals "NONE_LEFT" = some (some (.int (-33) t_NONE_LEFT)))
    (e_g_TOO_MUCH : PySem.W.nsIn K mainGlobals "TOO_MUCH" = some (some (.int (-62) t_TOO_MUCH)))
    (e_g_GREATEST_MOST : PySem.W.nsIn K mainGlobals "GREATEST_MOST" = some (some (.int 10000 t_GREATEST_MOST)))
    (e_g_GREATEST_UNIT : PySem.W.nsIn K mainGlobals "GREATEST_UNIT" = some (some (.int 1000 t_GREATEST_UNIT)))
    (e_g_GREATEST_KIND : PySem.W.nsIn K mainGlobals "GREATEST_KIND" = some (some (.int 3 t_GREATEST_KIND)))
    (e_g_GREATEST_MOMENT : PySem.W.nsIn K mainGlobals "GREATEST_MOMENT" = some (some (.int 100000 t_GREATEST_MOMENT)))
    (e_g_BLADES_AT_MOST : PySem.W.nsIn K mainGlobals "BLADES_AT_MOST" = some (some (.int 20 t_BLADES_AT_MOST)))
    (e_g_START : PySem.W.nsIn K mainGlobals "START" = some (some (.int 0 t_START)))
    (e_g_COUNTS : PySem.W.nsIn K mainGlobals "COUNTS" = some (some (.ref a_COUNTS)))
    (e_l_COUNTS : K.lookup a_COUNTS = some ⟨.type "tuple", od_COUNTS, .seq #[.int 2 tt_COUNTS_0, .int 2 tt_COUNTS_1, .int 2 tt_COUNTS_2, .int 1 tt_COUNTS_3, .int 3 tt_COUNTS_4, .int 3 tt_COUNTS_5, .int 3 tt_COUNTS_6, .int 1 tt_COUNTS_7, .int 1 tt_COUNTS_8, .int 2 tt_COUNTS_9, .int 2 tt_COUNTS_10, .int 3 tt_COUNTS_11, .int 1 tt_COUNTS_12, .int 1 tt_COUNTS_13, .int 1 tt_COUNTS_14, .int 2 tt_COUNTS_15, .int 1 tt_COUNTS_16, .int 1 tt_COUNTS_17, .int 1 tt_COUNTS_18, .int 1 tt_COUNTS_19, .int 0 tt_COUNTS_20, .int 0 tt_COUNTS_21] nn_COUNTS, sl_COUNTS⟩)
    (e_g_REPLIES : PySem.W.nsIn K mainGlobals "REPLIES" = some (some (.ref a_REPLIES)))
    (e_l_REPLIES : K.lookup a_REPLIES = some ⟨.type "dict", none, .dict #[⟨hh_REPLIES_0, .int 0 tt_REPLIES_0, .ref f_reply_start⟩, ⟨hh_REPLIES_1, .int 1 tt_REPLIES_1, .ref f_reply_blade⟩, ⟨hh_REPLIES_2, .int 2 tt_REPLIES_2, .ref f_reply_weigh⟩, ⟨hh_REPLIES_3, .int 3 tt_REPLIES_3, .ref f_reply_scrap⟩, ⟨hh_REPLIES_4, .int 4 tt_REPLIES_4, .ref f_reply_needs⟩, ⟨hh_REPLIES_5, .int 5 tt_REPLIES_5, .ref f_reply_off⟩, ⟨hh_REPLIES_6, .int 6 tt_REPLIES_6, .ref f_reply_match⟩, ⟨hh_REPLIES_7, .int 7 tt_REPLIES_7, .ref f_reply_set⟩, ⟨hh_REPLIES_8, .int 8 tt_REPLIES_8, .ref f_reply_part⟩, ⟨hh_REPLIES_9, .int 9 tt_REPLIES_9, .ref f_reply_third⟩, ⟨hh_REPLIES_10, .int 10 tt_REPLIES_10, .ref f_reply_spare⟩, ⟨hh_REPLIES_11, .int 11 tt_REPLIES_11, .ref f_reply_exchange⟩, ⟨hh_REPLIES_12, .int 12 tt_REPLIES_12, .ref f_reply_plan⟩, ⟨hh_REPLIES_13, .int 13 tt_REPLIES_13, .ref f_reply_least⟩, ⟨hh_REPLIES_14, .int 14 tt_REPLIES_14, .ref f_reply_follow⟩, ⟨hh_REPLIES_15, .int 15 tt_REPLIES_15, .ref f_reply_add⟩, ⟨hh_REPLIES_16, .int 16 tt_REPLIES_16, .ref f_reply_balanced⟩, ⟨hh_REPLIES_17, .int 17 tt_REPLIES_17, .ref f_reply_ship⟩, ⟨hh_REPLIES_18, .int 18 tt_REPLIES_18, .ref f_reply_free⟩, ⟨hh_REPLIES_19, .int 19 tt_REPLIES_19, .ref f_reply_look⟩, ⟨hh_REPLIES_20, .int 20 tt_REPLIES_20, .ref f_reply_sums⟩, ⟨hh_REPLIES_21, .int 21 tt_REPLIES_21, .ref f_reply_state⟩] ep_REPLIES, #[]⟩)
    (e_h_REPLIES_0 : hh_REPLIES_0 = hashInt 0)
    (e_h_REPLIES_1 : hh_REPLIES_1 = hashInt 1)
    (e_h_REPLIES_2 : hh_REPLIES_2 = hashInt 2)
    (e_h_REPLIES_3 : hh_REPLIES_3 = hashInt 3)
    (e_h_REPLIES_4 : hh_REPLIES_4 = hashInt 4)
    (e_h_REPLIES_5 : hh_REPLIES_5 = hashInt 5)
    (e_h_REPLIES_6 : hh_REPLIES_6 = hashInt 6)
    (e_h_REPLIES_7 : hh_REPLIES_7 = hashInt 7)
    (e_h_REPLIES_8 : hh_REPLIES_8 = hashInt 8)
    (e_h_REPLIES_9 : hh_REPLIES_9 = hashInt 9)
    (e_h_REPLIES_10 : hh_REPLIES_10 = hashInt 10)
    (e_h_REPLIES_11 : hh_REPLIES_11 = hashInt 11)
    (e_h_REPLIES_12 : hh_REPLIES_12 = hashInt 12)
    (e_h_REPLIES_13 : hh_REPLIES_13 = hashInt 13)
    (e_h_REPLIES_14 : hh_REPLIES_14 = hashInt 14)
    (e_h_REPLIES_15 : hh_REPLIES_15 = hashInt 15)
    (e_h_REPLIES_16 : hh_REPLIES_16 = hashInt 16)
    (e_h_REPLIES_17 : hh_REPLIES_17 = hashInt 17)
    (e_h_REPLIES_18 : hh_REPLIES_18 = hashInt 18)
    (e_h_REPLIES_19 : hh_REPLIES_19 = hashInt 19)
    (e_h_REPLIES_20 : hh_REPLIES_20 = hashInt 20)
    (e_h_REPLIES_21 : hh_REPLIES_21 = hashInt 21)
    (e_z_all : PySem.W.nsIn K mainGlobals "all" = some none)
    (e_z_enumerate : PySem.W.nsIn K mainGlobals "enumerate" = some none)
    (e_z_len : PySem.W.nsIn K mainGlobals "len" = some none)
    (e_z_list : PySem.W.nsIn K mainGlobals "list" = some none)
    (e_z_max : PySem.W.nsIn K mainGlobals "max" = some none)
    (e_z_min : PySem.W.nsIn K mainGlobals "min" = some none)
    (e_z_range : PySem.W.nsIn K mainGlobals "range" = some none)
    (e_z_set : PySem.W.nsIn K mainGlobals "set" = some none)
    (e_z_sorted : PySem.W.nsIn K mainGlobals "sorted" = some none)
    (e_z_sum : PySem.W.nsIn K mainGlobals "sum" = some none)
    (e_z_zip : PySem.W.nsIn K mainGlobals "zip" = some none) : { T : Txt K mg // T.P_Works_plan = P_Works_plan } := by
  have F0 : True := trivial
  have F_units_needed := fun_mk (st := s_units_needed) e_l_units_needed e_c_units_needed e_k_units_needed
  have F_shortfall := fun_mk (st := s_shortfall) e_l_shortfall e_c_shortfall e_k_shortfall
  have F_how_far_off := fun_mk (st := s_how_far_off) e_l_how_far_off e_c_how_far_off e_k_how_far_off
  have F_is_moment := fun_mk (st := s_is_moment) e_l_is_moment e_c_is_moment e_k_is_moment
  have F_reply_start := fun_mk (st := s_reply_start) e_l_reply_start e_c_reply_start e_k_reply_start
  have F_reply_blade := fun_mk (st := s_reply_blade) e_l_reply_blade e_c_reply_blade e_k_reply_blade
  have F_refusal_unless_free := fun_mk (st := s_refusal_unless_free) e_l_refusal_unless_free e_c_refusal_unless_free e_k_refusal_unless_free
  have F_reply_weigh := fun_mk (st := s_reply_weigh) e_l_reply_weigh e_c_reply_weigh e_k_reply_weigh
  have F_reply_scrap := fun_mk (st := s_reply_scrap) e_l_reply_scrap e_c_reply_scrap e_k_reply_scrap
  have F_reply_add := fun_mk (st := s_reply_add) e_l_reply_add e_c_reply_add e_k_reply_add
  have F_reply_look := fun_mk (st := s_reply_look) e_l_reply_look e_c_reply_look e_k_reply_look
  have F_refusal_unless_several := fun_mk (st := s_refusal_unless_several) e_l_refusal_unless_several e_c_refusal_unless_several e_k_refusal_unless_several
  have F_reply_needs := fun_mk (st := s_reply_needs) e_l_reply_needs e_c_reply_needs e_k_reply_needs
  have F_reply_off := fun_mk (st := s_reply_off) e_l_reply_off e_c_reply_off e_k_reply_off
  have F_reply_match := fun_mk (st := s_reply_match) e_l_reply_match e_c_reply_match e_k_reply_match
  have F_reply_set := fun_mk (st := s_reply_set) e_l_reply_set e_c_reply_set e_k_reply_set
  have F_reply_part := fun_mk (st := s_reply_part) e_l_reply_part e_c_reply_part e_k_reply_part
  have F_best_beside := fun_mk (st := s_best_beside) e_l_best_beside e_c_best_beside e_k_best_beside
  have F_reply_third := fun_mk (st := s_reply_third) e_l_reply_third e_c_reply_third e_k_reply_third
  have F_reply_spare := fun_mk (st := s_reply_spare) e_l_reply_spare e_c_reply_spare e_k_reply_spare
  have F_reply_exchange := fun_mk (st := s_reply_exchange) e_l_reply_exchange e_c_reply_exchange e_k_reply_exchange
  have F_reply_balanced := fun_mk (st := s_reply_balanced) e_l_reply_balanced e_c_reply_balanced e_k_reply_balanced
  have F_reply_ship := fun_mk (st := s_reply_ship) e_l_reply_ship e_c_reply_ship e_k_reply_ship
  have F_reply_plan := fun_mk (st := s_reply_plan) e_l_reply_plan e_c_reply_plan e_k_reply_plan
  have F_reply_least := fun_mk (st := s_reply_least) e_l_reply_least e_c_reply_least e_k_reply_least
  have F_reply_follow := fun_mk (st := s_reply_follow) e_l_reply_follow e_c_reply_follow e_k_reply_follow
  have F_reply_free := fun_mk (st := s_reply_free) e_l_reply_free e_c_reply_free e_k_reply_free
  have F_reply_sums := fun_mk (st := s_reply_sums) e_l_reply_sums e_c_reply_sums e_k_reply_sums
  have F_reply_state := fun_mk (st := s_reply_state) e_l_reply_state e_c_reply_state e_k_reply_state
  have F_reply_to := fun_mk (st := s_reply_to) e_l_reply_to e_c_reply_to e_k_reply_to
  have F_Blade_init := fun_mk (st := s_Blade_init) e_l_Blade_init e_c_Blade_init e_k_Blade_init
  have F_Blade_pull := fun_mk (st := s_Blade_pull) e_l_Blade_pull e_c_Blade_pull e_k_Blade_pull
  have F_Blade_is_free := fun_mk (st := s_Blade_is_free) e_l_Blade_is_free e_c_Blade_is_free e_k_Blade_is_free
  have F_Blade_weigh_anew := fun_mk (st := s_Blade_weigh_anew) e_l_Blade_weigh_anew e_c_Blade_weigh_anew e_k_Blade_weigh_anew
  have F_Works_init := fun_mk (st := s_Works_init) e_l_Works_init e_c_Works_init e_k_Works_init
  have F_Works_begin := fun_mk (st := s_Works_begin) e_l_Works_begin e_c_Works_begin e_k_Works_begin
  have F_Works_take_in := fun_mk (st := s_Works_take_in) e_l_Works_take_in e_c_Works_take_in e_k_Works_take_in
  have F_Works_has_blades := fun_mk (st := s_Works_has_blades) e_l_Works_has_blades e_c_Works_has_blades e_k_Works_has_blades
  have F_Works_of_one_kind := fun_mk (st := s_Works_of_one_kind) e_l_Works_of_one_kind e_c_Works_of_one_kind e_k_Works_of_one_kind
  have F_Works_all_free := fun_mk (st := s_Works_all_free) e_l_Works_all_free e_c_Works_all_free e_k_Works_all_free
  have F_Works_free_of_kind := fun_mk (st := s_Works_free_of_kind) e_l_Works_free_of_kind e_c_Works_free_of_kind e_k_Works_free_of_kind
  have F_Works_pulls := fun_mk (st := s_Works_pulls) e_l_Works_pulls e_c_Works_pulls e_k_Works_pulls
  have F_Works_units_for := fun_mk (st := s_Works_units_for) e_l_Works_units_for e_c_Works_units_for e_k_Works_units_for
  have F_Works_may_be_set := fun_mk (st := s_Works_may_be_set) e_l_Works_may_be_set e_c_Works_may_be_set e_k_Works_may_be_set
  have F_Works_needs_nothing := fun_mk (st := s_Works_needs_nothing) e_l_Works_needs_nothing e_c_Works_needs_nothing e_k_Works_needs_nothing
  have F_Works_even_out := fun_mk (st := s_Works_even_out) e_l_Works_even_out e_c_Works_even_out e_k_Works_even_out
  have F_Works_bind := fun_mk (st := s_Works_bind) e_l_Works_bind e_c_Works_bind e_k_Works_bind
  have F_Works_bind_as := fun_mk (st := s_Works_bind_as) e_l_Works_bind_as e_c_Works_bind_as e_k_Works_bind_as
  have F_Works_least_free_number := fun_mk (st := s_Works_least_free_number) e_l_Works_least_free_number e_c_Works_least_free_number e_k_Works_least_free_number
  have F_Works_unbind := fun_mk (st := s_Works_unbind) e_l_Works_unbind e_c_Works_unbind e_k_Works_unbind
  have F_Works_rebind := fun_mk (st := s_Works_rebind) e_l_Works_rebind e_c_Works_rebind e_k_Works_rebind
  have F_Works_send_off := fun_mk (st := s_Works_send_off) e_l_Works_send_off e_c_Works_send_off e_k_Works_send_off
  have F_Works_plan := fun_mk (st := s_Works_plan) e_l_Works_plan e_c_Works_plan e_k_Works_plan
  have F_answers := fun_mk (st := s_answers) e_l_answers e_c_answers e_k_answers
  exact ⟨{
    C_Blade := C_Blade
    C_Works := C_Works
    f_units_needed := f_units_needed
    fd_units_needed := _
    f_shortfall := f_shortfall
    fd_shortfall := _
    f_how_far_off := f_how_far_off
    fd_how_far_off := _
    f_is_moment := f_is_moment
    fd_is_moment := _
    f_reply_start := f_reply_start
    fd_reply_start := _
    f_reply_blade := f_reply_blade
    fd_reply_blade := _
    f_refusal_unless_free := f_refusal_unless_free
    fd_refusal_unless_free := _
    f_reply_weigh := f_reply_weigh
    fd_reply_weigh := _
    f_reply_scrap := f_reply_scrap
    fd_reply_scrap := _
    f_reply_add := f_reply_add
    fd_reply_add := _
    f_reply_look := f_reply_look
    fd_reply_look := _
    f_refusal_unless_several := f_refusal_unless_several
    fd_refusal_unless_several := _
    f_reply_needs := f_reply_needs
    fd_reply_needs := _
    f_reply_off := f_reply_off
    fd_reply_off := _
    f_reply_match := f_reply_match
    fd_reply_match := _
    f_reply_set := f_reply_set
    fd_reply_set := _
    f_reply_part := f_reply_part
    fd_reply_part := _
    f_best_beside := f_best_beside
    fd_best_beside := _
    f_reply_third := f_reply_third
    fd_reply_third := _
    f_reply_spare := f_reply_spare
    fd_reply_spare := _
    f_reply_exchange := f_reply_exchange
    fd_reply_exchange := _
    f_reply_balanced := f_reply_balanced
    fd_reply_balanced := _
    f_reply_ship := f_reply_ship
    fd_reply_ship := _
    f_reply_plan := f_reply_plan
    fd_reply_plan := _
    f_reply_least := f_reply_least
    fd_reply_least := _
    f_reply_follow := f_reply_follow
    fd_reply_follow := _
    f_reply_free := f_reply_free
    fd_reply_free := _
    f_reply_sums := f_reply_sums
    fd_reply_sums := _
    f_reply_state := f_reply_state
    fd_reply_state := _
    f_reply_to := f_reply_to
    fd_reply_to := _
    f_Blade_init := f_Blade_init
    fd_Blade_init := _
    f_Blade_pull := f_Blade_pull
    fd_Blade_pull := _
    f_Blade_is_free := f_Blade_is_free
    fd_Blade_is_free := _
    f_Blade_weigh_anew := f_Blade_weigh_anew
    fd_Blade_weigh_anew := _
    f_Works_init := f_Works_init
    fd_Works_init := _
    f_Works_begin := f_Works_begin
    fd_Works_begin := _
    f_Works_take_in := f_Works_take_in
    fd_Works_take_in := _
    f_Works_has_blades := f_Works_has_blades
    fd_Works_has_blades := _
    f_Works_of_one_kind := f_Works_of_one_kind
    fd_Works_of_one_kind := _
    f_Works_all_free := f_Works_all_free
    fd_Works_all_free := _
    f_Works_free_of_kind := f_Works_free_of_kind
    fd_Works_free_of_kind := _
    f_Works_pulls := f_Works_pulls
    fd_Works_pulls := _
    f_Works_units_for := f_Works_units_for
    fd_Works_units_for := _
    f_Works_may_be_set := f_Works_may_be_set
    fd_Works_may_be_set := _
    f_Works_needs_nothing := f_Works_needs_nothing
    fd_Works_needs_nothing := _
    f_Works_even_out := f_Works_even_out
    fd_Works_even_out := _
    f_Works_bind := f_Works_bind
    fd_Works_bind := _
    f_Works_bind_as := f_Works_bind_as
    fd_Works_bind_as := _
    f_Works_least_free_number := f_Works_least_free_number
    fd_Works_least_free_number := _
    f_Works_unbind := f_Works_unbind
    fd_Works_unbind := _
    f_Works_rebind := f_Works_rebind
    fd_Works_rebind := _
    f_Works_send_off := f_Works_send_off
    fd_Works_send_off := _
    f_Works_plan := f_Works_plan
    fd_Works_plan := _
    f_answers := f_answers
    fd_answers := _
    P_Works_plan := P_Works_plan
    cd_Works_plan := codeV_of e_t_Works_plan
    t_NO_SUCH := t_NO_SUCH
    t_NOT_STARTED := t_NOT_STARTED
    t_NOT_EVEN := t_NOT_EVEN
    t_NOT_FREE := t_NOT_FREE
    t_WRONG := t_WRONG
    t_FULL := t_FULL
    t_NONE_LEFT := t_NONE_LEFT
    t_TOO_MUCH := t_TOO_MUCH
    t_GREATEST_MOST := t_GREATEST_MOST
    t_GREATEST_UNIT := t_GREATEST_UNIT
    t_GREATEST_KIND := t_GREATEST_KIND
    t_GREATEST_MOMENT := t_GREATEST_MOMENT
    t_BLADES_AT_MOST := t_BLADES_AT_MOST
    t_START := t_START
    a_COUNTS := a_COUNTS
    a_REPLIES := a_REPLIES
    cl_Blade := ⟨e_pg_Blade, e_hd_Blade, e_po_Blade, e_sa_Blade⟩
    mg_Blade := PySem.W.mg_of X G e_g_Blade
    mk_Blade := ⟨e_mk_Blade, e_p_Blade_init, e_i_Blade_init, e_kc_Blade⟩
    na_Blade_kind := e_na_Blade_kind
    na_Blade_moment := e_na_Blade_moment
    na_Blade_added := e_na_Blade_added
    na_Blade_gone := e_na_Blade_gone
    na_Blade_set_and_one := e_na_Blade_set_and_one
    cl_Works := ⟨e_pg_Works, e_hd_Works, e_po_Works, e_sa_Works⟩
    mg_Works := PySem.W.mg_of X G e_g_Works
    mk_Works := ⟨e_mk_Works, e_p_Works_init, e_i_Works_init, e_kc_Works⟩
    na_Works_started := e_na_Works_started
    na_Works_most := e_na_Works_most
    na_Works_unit := e_na_Works_unit
    na_Works_blades := e_na_Works_blades
    na_Works_trios := e_na_Works_trios
    F_units_needed := F_units_needed
    b_units_needed := F_units_needed.binds (ps := ["pulls", "unit"]) fun _ _ _ _ _ _ us hl => match us, hl with | [_, _], _ => rfl
    mg_units_needed := PySem.W.mg_of X G e_p_units_needed
    F_shortfall := F_shortfall
    b_shortfall := F_shortfall.binds (ps := ["pulls"]) fun _ _ _ _ _ _ us hl => match us, hl with | [_], _ => rfl
    mg_shortfall := PySem.W.mg_of X G e_p_shortfall
    F_how_far_off := F_how_far_off
    b_how_far_off := F_how_far_off.binds (ps := ["pulls"]) fun _ _ _ _ _ _ us hl => match us, hl with | [_], _ => rfl
    mg_how_far_off := PySem.W.mg_of X G e_p_how_far_off
    F_is_moment := F_is_moment
    b_is_moment := F_is_moment.binds (ps := ["moment"]) fun _ _ _ _ _ _ us hl => match us, hl with | [_], _ => rfl
    mg_is_moment := PySem.W.mg_of X G e_p_is_moment
    F_reply_start := F_reply_start
    b_reply_start := F_reply_start.binds (ps := ["works", "numbers"]) fun _ _ _ _ _ _ us hl => match us, hl with | [_, _], _ => rfl
    mg_reply_start := PySem.W.mg_of X G e_p_reply_start
    F_reply_blade := F_reply_blade
    b_reply_blade := F_reply_blade.binds (ps := ["works", "numbers"]) fun _ _ _ _ _ _ us hl => match us, hl with | [_, _], _ => rfl
    mg_reply_blade := PySem.W.mg_of X G e_p_reply_blade
    F_refusal_unless_free := F_refusal_unless_free
    b_refusal_unless_free := F_refusal_unless_free.binds (ps := ["works", "i"]) fun _ _ _ _ _ _ us hl => match us, hl with | [_, _], _ => rfl
    mg_refusal_unless_free := PySem.W.mg_of X G e_p_refusal_unless_free
    F_reply_weigh := F_reply_weigh
    b_reply_weigh := F_reply_weigh.binds (ps := ["works", "numbers"]) fun _ _ _ _ _ _ us hl => match us, hl with | [_, _], _ => rfl
    mg_reply_weigh := PySem.W.mg_of X G e_p_reply_weigh
    F_reply_scrap := F_reply_scrap
    b_reply_scrap := F_reply_scrap.binds (ps := ["works", "numbers"]) fun _ _ _ _ _ _ us hl => match us, hl with | [_, _], _ => rfl
    mg_reply_scrap := PySem.W.mg_of X G e_p_reply_scrap
    F_reply_add := F_reply_add
    b_reply_add := F_reply_add.binds (ps := ["works", "numbers"]) fun _ _ _ _ _ _ us hl => match us, hl with | [_, _], _ => rfl
    mg_reply_add := PySem.W.mg_of X G e_p_reply_add
    F_reply_look := F_reply_look
    b_reply_look := F_reply_look.binds (ps := ["works", "numbers"]) fun _ _ _ _ _ _ us hl => match us, hl with | [_, _], _ => rfl
    mg_reply_look := PySem.W.mg_of X G e_p_reply_look
    F_refusal_unless_several := F_refusal_unless_several
    b_refusal_unless_several := F_refusal_unless_several.binds (ps := ["works", "numbers"]) fun _ _ _ _ _ _ us hl => match us, hl with | [_, _], _ => rfl
    mg_refusal_unless_several := PySem.W.mg_of X G e_p_refusal_unless_several
    F_reply_needs := F_reply_needs
    b_reply_needs := F_reply_needs.binds (ps := ["works", "numbers"]) fun _ _ _ _ _ _ us hl => match us, hl with | [_, _], _ => rfl
    mg_reply_needs := PySem.W.mg_of X G e_p_reply_needs
    F_reply_off := F_reply_off
    b_reply_off := F_reply_off.binds (ps := ["works", "numbers"]) fun _ _ _ _ _ _ us hl => match us, hl with | [_, _], _ => rfl
    mg_reply_off := PySem.W.mg_of X G e_p_reply_off
    F_reply_match := F_reply_match
    b_reply_match := F_reply_match.binds (ps := ["works", "numbers"]) fun _ _ _ _ _ _ us hl => match us, hl with | [_, _], _ => rfl
    mg_reply_match := PySem.W.mg_of X G e_p_reply_match
    F_reply_set := F_reply_set
    b_reply_set := F_reply_set.binds (ps := ["works", "numbers"]) fun _ _ _ _ _ _ us hl => match us, hl with | [_, _], _ => rfl
    mg_reply_set := PySem.W.mg_of X G e_p_reply_set
    F_reply_part := F_reply_part
    b_reply_part := F_reply_part.binds (ps := ["works", "numbers"]) fun _ _ _ _ _ _ us hl => match us, hl with | [_, _], _ => rfl
    mg_reply_part := PySem.W.mg_of X G e_p_reply_part
    F_best_beside := F_best_beside
    b_best_beside := F_best_beside.binds (ps := ["works", "pair"]) fun _ _ _ _ _ _ us hl => match us, hl with | [_, _], _ => rfl
    mg_best_beside := PySem.W.mg_of X G e_p_best_beside
    F_reply_third := F_reply_third
    b_reply_third := F_reply_third.binds (ps := ["works", "numbers"]) fun _ _ _ _ _ _ us hl => match us, hl with | [_, _], _ => rfl
    mg_reply_third := PySem.W.mg_of X G e_p_reply_third
    F_reply_spare := F_reply_spare
    b_reply_spare := F_reply_spare.binds (ps := ["works", "numbers"]) fun _ _ _ _ _ _ us hl => match us, hl with | [_, _], _ => rfl
    mg_reply_spare := PySem.W.mg_of X G e_p_reply_spare
    F_reply_exchange := F_reply_exchange
    b_reply_exchange := F_reply_exchange.binds (ps := ["works", "numbers"]) fun _ _ _ _ _ _ us hl => match us, hl with | [_, _], _ => rfl
    mg_reply_exchange := PySem.W.mg_of X G e_p_reply_exchange
    F_reply_balanced := F_reply_balanced
    b_reply_balanced := F_reply_balanced.binds (ps := ["works", "numbers"]) fun _ _ _ _ _ _ us hl => match us, hl with | [_, _], _ => rfl
    mg_reply_balanced := PySem.W.mg_of X G e_p_reply_balanced
    F_reply_ship := F_reply_ship
    b_reply_ship := F_reply_ship.binds (ps := ["works", "numbers"]) fun _ _ _ _ _ _ us hl => match us, hl with | [_, _], _ => rfl
    mg_reply_ship := PySem.W.mg_of X G e_p_reply_ship
    F_reply_plan := F_reply_plan
    b_reply_plan := F_reply_plan.binds (ps := ["works", "numbers"]) fun _ _ _ _ _ _ us hl => match us, hl with | [_, _], _ => rfl
    mg_reply_plan := PySem.W.mg_of X G e_p_reply_plan
    F_reply_least := F_reply_least
    b_reply_least := F_reply_least.binds (ps := ["works", "numbers"]) fun _ _ _ _ _ _ us hl => match us, hl with | [_, _], _ => rfl
    mg_reply_least := PySem.W.mg_of X G e_p_reply_least
    F_reply_follow := F_reply_follow
    b_reply_follow := F_reply_follow.binds (ps := ["works", "numbers"]) fun _ _ _ _ _ _ us hl => match us, hl with | [_, _], _ => rfl
    mg_reply_follow := PySem.W.mg_of X G e_p_reply_follow
    F_reply_free := F_reply_free
    b_reply_free := F_reply_free.binds (ps := ["works", "numbers"]) fun _ _ _ _ _ _ us hl => match us, hl with | [_, _], _ => rfl
    mg_reply_free := PySem.W.mg_of X G e_p_reply_free
    F_reply_sums := F_reply_sums
    b_reply_sums := F_reply_sums.binds (ps := ["works", "numbers"]) fun _ _ _ _ _ _ us hl => match us, hl with | [_, _], _ => rfl
    mg_reply_sums := PySem.W.mg_of X G e_p_reply_sums
    F_reply_state := F_reply_state
    b_reply_state := F_reply_state.binds (ps := ["works", "numbers"]) fun _ _ _ _ _ _ us hl => match us, hl with | [_, _], _ => rfl
    mg_reply_state := PySem.W.mg_of X G e_p_reply_state
    F_reply_to := F_reply_to
    b_reply_to := F_reply_to.binds (ps := ["works", "call", "numbers"]) fun _ _ _ _ _ _ us hl => match us, hl with | [_, _, _], _ => rfl
    mg_reply_to := PySem.W.mg_of X G e_p_reply_to
    F_Blade_init := F_Blade_init
    b_Blade_init := F_Blade_init.binds (ps := ["self", "kind", "moment"]) fun _ _ _ _ _ _ us hl => match us, hl with | [_, _, _], _ => rfl
    m_Blade_init := ⟨e_p_Blade_init, e_i_Blade_init, e_k_Blade_init⟩
    F_Blade_pull := F_Blade_pull
    b_Blade_pull := F_Blade_pull.binds (ps := ["self"]) fun _ _ _ _ _ _ us hl => match us, hl with | [_], _ => rfl
    m_Blade_pull := ⟨e_p_Blade_pull, e_i_Blade_pull, e_k_Blade_pull⟩
    F_Blade_is_free := F_Blade_is_free
    b_Blade_is_free := F_Blade_is_free.binds (ps := ["self"]) fun _ _ _ _ _ _ us hl => match us, hl with | [_], _ => rfl
    m_Blade_is_free := ⟨e_p_Blade_is_free, e_i_Blade_is_free, e_k_Blade_is_free⟩
    F_Blade_weigh_anew := F_Blade_weigh_anew
    b_Blade_weigh_anew := F_Blade_weigh_anew.binds (ps := ["self", "moment"]) fun _ _ _ _ _ _ us hl => match us, hl with | [_, _], _ => rfl
    m_Blade_weigh_anew := ⟨e_p_Blade_weigh_anew, e_i_Blade_weigh_anew, e_k_Blade_weigh_anew⟩
    F_Works_init := F_Works_init
    b_Works_init := F_Works_init.binds (ps := ["self"]) fun _ _ _ _ _ _ us hl => match us, hl with | [_], _ => rfl
    m_Works_init := ⟨e_p_Works_init, e_i_Works_init, e_k_Works_init⟩
    F_Works_begin := F_Works_begin
    b_Works_begin := F_Works_begin.binds (ps := ["self", "most", "unit"]) fun _ _ _ _ _ _ us hl => match us, hl with | [_, _, _], _ => rfl
    m_Works_begin := ⟨e_p_Works_begin, e_i_Works_begin, e_k_Works_begin⟩
    F_Works_take_in := F_Works_take_in
    b_Works_take_in := F_Works_take_in.binds (ps := ["self", "kind", "moment"]) fun _ _ _ _ _ _ us hl => match us, hl with | [_, _, _], _ => rfl
    m_Works_take_in := ⟨e_p_Works_take_in, e_i_Works_take_in, e_k_Works_take_in⟩
    F_Works_has_blades := F_Works_has_blades
    b_Works_has_blades := F_Works_has_blades.binds (ps := ["self", "numbers"]) fun _ _ _ _ _ _ us hl => match us, hl with | [_, _], _ => rfl
    m_Works_has_blades := ⟨e_p_Works_has_blades, e_i_Works_has_blades, e_k_Works_has_blades⟩
    F_Works_of_one_kind := F_Works_of_one_kind
    b_Works_of_one_kind := F_Works_of_one_kind.binds (ps := ["self", "numbers"]) fun _ _ _ _ _ _ us hl => match us, hl with | [_, _], _ => rfl
    m_Works_of_one_kind := ⟨e_p_Works_of_one_kind, e_i_Works_of_one_kind, e_k_Works_of_one_kind⟩
    F_Works_all_free := F_Works_all_free
    b_Works_all_free := F_Works_all_free.binds (ps := ["self", "numbers"]) fun _ _ _ _ _ _ us hl => match us, hl with | [_, _], _ => rfl
    m_Works_all_free := ⟨e_p_Works_all_free, e_i_Works_all_free, e_k_Works_all_free⟩
    F_Works_free_of_kind := F_Works_free_of_kind
    b_Works_free_of_kind := F_Works_free_of_kind.binds (ps := ["self", "kind"]) fun _ _ _ _ _ _ us hl => match us, hl with | [_, _], _ => rfl
    m_Works_free_of_kind := ⟨e_p_Works_free_of_kind, e_i_Works_free_of_kind, e_k_Works_free_of_kind⟩
    F_Works_pulls := F_Works_pulls
    b_Works_pulls := F_Works_pulls.binds (ps := ["self", "numbers"]) fun _ _ _ _ _ _ us hl => match us, hl with | [_, _], _ => rfl
    m_Works_pulls := ⟨e_p_Works_pulls, e_i_Works_pulls, e_k_Works_pulls⟩
    F_Works_units_for := F_Works_units_for
    b_Works_units_for := F_Works_units_for.binds (ps := ["self", "numbers"]) fun _ _ _ _ _ _ us hl => match us, hl with | [_, _], _ => rfl
    m_Works_units_for := ⟨e_p_Works_units_for, e_i_Works_units_for, e_k_Works_units_for⟩
    F_Works_may_be_set := F_Works_may_be_set
    b_Works_may_be_set := F_Works_may_be_set.binds (ps := ["self", "numbers"]) fun _ _ _ _ _ _ us hl => match us, hl with | [_, _], _ => rfl
    m_Works_may_be_set := ⟨e_p_Works_may_be_set, e_i_Works_may_be_set, e_k_Works_may_be_set⟩
    F_Works_needs_nothing := F_Works_needs_nothing
    b_Works_needs_nothing := F_Works_needs_nothing.binds (ps := ["self", "numbers"]) fun _ _ _ _ _ _ us hl => match us, hl with | [_, _], _ => rfl
    m_Works_needs_nothing := ⟨e_p_Works_needs_nothing, e_i_Works_needs_nothing, e_k_Works_needs_nothing⟩
    F_Works_even_out := F_Works_even_out
    b_Works_even_out := F_Works_even_out.binds (ps := ["self", "numbers"]) fun _ _ _ _ _ _ us hl => match us, hl with | [_, _], _ => rfl
    m_Works_even_out := ⟨e_p_Works_even_out, e_i_Works_even_out, e_k_Works_even_out⟩
    F_Works_bind := F_Works_bind
    b_Works_bind := F_Works_bind.binds (ps := ["self", "numbers"]) fun _ _ _ _ _ _ us hl => match us, hl with | [_, _], _ => rfl
    m_Works_bind := ⟨e_p_Works_bind, e_i_Works_bind, e_k_Works_bind⟩
    F_Works_bind_as := F_Works_bind_as
    b_Works_bind_as := F_Works_bind_as.binds (ps := ["self", "s", "numbers"]) fun _ _ _ _ _ _ us hl => match us, hl with | [_, _, _], _ => rfl
    m_Works_bind_as := ⟨e_p_Works_bind_as, e_i_Works_bind_as, e_k_Works_bind_as⟩
    F_Works_least_free_number := F_Works_least_free_number
    b_Works_least_free_number := F_Works_least_free_number.binds (ps := ["self"]) fun _ _ _ _ _ _ us hl => match us, hl with | [_], _ => rfl
    m_Works_least_free_number := ⟨e_p_Works_least_free_number, e_i_Works_least_free_number, e_k_Works_least_free_number⟩
    F_Works_unbind := F_Works_unbind
    b_Works_unbind := F_Works_unbind.binds (ps := ["self", "s"]) fun _ _ _ _ _ _ us hl => match us, hl with | [_, _], _ => rfl
    m_Works_unbind := ⟨e_p_Works_unbind, e_i_Works_unbind, e_k_Works_unbind⟩
    F_Works_rebind := F_Works_rebind
    b_Works_rebind := F_Works_rebind.binds (ps := ["self", "s", "numbers"]) fun _ _ _ _ _ _ us hl => match us, hl with | [_, _, _], _ => rfl
    m_Works_rebind := ⟨e_p_Works_rebind, e_i_Works_rebind, e_k_Works_rebind⟩
    F_Works_send_off := F_Works_send_off
    b_Works_send_off := F_Works_send_off.binds (ps := ["self", "s"]) fun _ _ _ _ _ _ us hl => match us, hl with | [_, _], _ => rfl
    m_Works_send_off := ⟨e_p_Works_send_off, e_i_Works_send_off, e_k_Works_send_off⟩
    F_Works_plan := F_Works_plan
    b_Works_plan := F_Works_plan.binds (ps := ["self", "kind"]) fun _ _ _ _ _ _ us hl => match us, hl with | [_, _], _ => rfl
    m_Works_plan := ⟨e_p_Works_plan, e_i_Works_plan, e_k_Works_plan⟩
    F_answers := F_answers
    b_answers := F_answers.binds (ps := ["calls"]) fun _ _ _ _ _ _ us hl => match us, hl with | [_], _ => rfl
    mg_answers := PySem.W.mg_of X G e_p_answers
    mg_NO_SUCH := PySem.W.mg_of X G e_g_NO_SUCH
    mg_NOT_STARTED := PySem.W.mg_of X G e_g_NOT_STARTED
    mg_NOT_EVEN := PySem.W.mg_of X G e_g_NOT_EVEN
    mg_NOT_FREE := PySem.W.mg_of X G e_g_NOT_FREE
    mg_WRONG := PySem.W.mg_of X G e_g_WRONG
    mg_FULL := PySem.W.mg_of X G e_g_FULL
    mg_NONE_LEFT := PySem.W.mg_of X G e_g_NONE_LEFT
    mg_TOO_MUCH := PySem.W.mg_of X G e_g_TOO_MUCH
    mg_GREATEST_MOST := PySem.W.mg_of X G e_g_GREATEST_MOST
    mg_GREATEST_UNIT := PySem.W.mg_of X G e_g_GREATEST_UNIT
    mg_GREATEST_KIND := PySem.W.mg_of X G e_g_GREATEST_KIND
    mg_GREATEST_MOMENT := PySem.W.mg_of X G e_g_GREATEST_MOMENT
    mg_BLADES_AT_MOST := PySem.W.mg_of X G e_g_BLADES_AT_MOST
    mg_START := PySem.W.mg_of X G e_g_START
    mg_COUNTS := PySem.W.mg_of X G e_g_COUNTS
    sq_COUNTS := fun H => .inr ⟨_, _, _, e_l_COUNTS, rfl, rfl, (by show 22 ≤ sizeLine; decide), .cons ⟨_, rfl⟩ (.cons ⟨_, rfl⟩ (.cons ⟨_, rfl⟩ (.cons ⟨_, rfl⟩ (.cons ⟨_, rfl⟩ (.cons ⟨_, rfl⟩ (.cons ⟨_, rfl⟩ (.cons ⟨_, rfl⟩ (.cons ⟨_, rfl⟩ (.cons ⟨_, rfl⟩ (.cons ⟨_, rfl⟩ (.cons ⟨_, rfl⟩ (.cons ⟨_, rfl⟩ (.cons ⟨_, rfl⟩ (.cons ⟨_, rfl⟩ (.cons ⟨_, rfl⟩ (.cons ⟨_, rfl⟩ (.cons ⟨_, rfl⟩ (.cons ⟨_, rfl⟩ (.cons ⟨_, rfl⟩ (.cons ⟨_, rfl⟩ (.cons ⟨_, rfl⟩ (.nil))))))))))))))))))))))⟩
    mg_REPLIES := PySem.W.mg_of X G e_g_REPLIES
    gd_REPLIES_0 := ⟨_, _, _, _, e_l_REPLIES, rfl, rfl, rfl, rfl, (by simp [e_h_REPLIES_0, e_h_REPLIES_1, e_h_REPLIES_2, e_h_REPLIES_3, e_h_REPLIES_4, e_h_REPLIES_5, e_h_REPLIES_6, e_h_REPLIES_7, e_h_REPLIES_8, e_h_REPLIES_9, e_h_REPLIES_10, e_h_REPLIES_11, e_h_REPLIES_12, e_h_REPLIES_13, e_h_REPLIES_14, e_h_REPLIES_15, e_h_REPLIES_16, e_h_REPLIES_17, e_h_REPLIES_18, e_h_REPLIES_19, e_h_REPLIES_20, e_h_REPLIES_21]), (by rfl), rfl⟩
    gd_REPLIES_1 := ⟨_, _, _, _, e_l_REPLIES, rfl, rfl, rfl, rfl, (by simp [e_h_REPLIES_0, e_h_REPLIES_1, e_h_REPLIES_2, e_h_REPLIES_3, e_h_REPLIES_4, e_h_REPLIES_5, e_h_REPLIES_6, e_h_REPLIES_7, e_h_REPLIES_8, e_h_REPLIES_9, e_h_REPLIES_10, e_h_REPLIES_11, e_h_REPLIES_12, e_h_REPLIES_13, e_h_REPLIES_14, e_h_REPLIES_15, e_h_REPLIES_16, e_h_REPLIES_17, e_h_REPLIES_18, e_h_REPLIES_19, e_h_REPLIES_20, e_h_REPLIES_21]), (by rfl), rfl⟩
    gd_REPLIES_2 := ⟨_, _, _, _, e_l_REPLIES, rfl, rfl, rfl, rfl, (by simp [e_h_REPLIES_0, e_h_REPLIES_1, e_h_REPLIES_2, e_h_REPLIES_3, e_h_REPLIES_4, e_h_REPLIES_5, e_h_REPLIES_6, e_h_REPLIES_7, e_h_REPLIES_8, e_h_REPLIES_9, e_h_REPLIES_10, e_h_REPLIES_11, e_h_REPLIES_12, e_h_REPLIES_13, e_h_REPLIES_14, e_h_REPLIES_15, e_h_REPLIES_16, e_h_REPLIES_17, e_h_REPLIES_18, e_h_REPLIES_19, e_h_REPLIES_20, e_h_REPLIES_21]), (by rfl), rfl⟩
    gd_REPLIES_3 := ⟨_, _, _, _, e_l_REPLIES, rfl, rfl, rfl, rfl, (by simp [e_h_REPLIES_0, e_h_REPLIES_1, e_h_REPLIES_2, e_h_REPLIES_3, e_h_REPLIES_4, e_h_REPLIES_5, e_h_REPLIES_6, e_h_REPLIES_7, e_h_REPLIES_8, e_h_REPLIES_9, e_h_REPLIES_10, e_h_REPLIES_11, e_h_REPLIES_12, e_h_REPLIES_13, e_h_REPLIES_14, e_h_REPLIES_15, e_h_REPLIES_16, e_h_REPLIES_17, e_h_REPLIES_18, e_h_REPLIES_19, e_h_REPLIES_20, e_h_REPLIES_21]), (by rfl), rfl⟩
    gd_REPLIES_4 := ⟨_, _, _, _, e_l_REPLIES, rfl, rfl, rfl, rfl, (by simp [e_h_REPLIES_0, e_h_REPLIES_1, e_h_REPLIES_2, e_h_REPLIES_3, e_h_REPLIES_4, e_h_REPLIES_5, e_h_REPLIES_6, e_h_REPLIES_7, e_h_REPLIES_8, e_h_REPLIES_9, e_h_REPLIES_10, e_h_REPLIES_11, e_h_REPLIES_12, e_h_REPLIES_13, e_h_REPLIES_14, e_h_REPLIES_15, e_h_REPLIES_16, e_h_REPLIES_17, e_h_REPLIES_18, e_h_REPLIES_19, e_h_REPLIES_20, e_h_REPLIES_21]), (by rfl), rfl⟩
    gd_REPLIES_5 := ⟨_, _, _, _, e_l_REPLIES, rfl, rfl, rfl, rfl, (by simp [e_h_REPLIES_0, e_h_REPLIES_1, e_h_REPLIES_2, e_h_REPLIES_3, e_h_REPLIES_4, e_h_REPLIES_5, e_h_REPLIES_6, e_h_REPLIES_7, e_h_REPLIES_8, e_h_REPLIES_9, e_h_REPLIES_10, e_h_REPLIES_11, e_h_REPLIES_12, e_h_REPLIES_13, e_h_REPLIES_14, e_h_REPLIES_15, e_h_REPLIES_16, e_h_REPLIES_17, e_h_REPLIES_18, e_h_REPLIES_19, e_h_REPLIES_20, e_h_REPLIES_21]), (by rfl), rfl⟩
    gd_REPLIES_6 := ⟨_, _, _, _, e_l_REPLIES, rfl, rfl, rfl, rfl, (by simp [e_h_REPLIES_0, e_h_REPLIES_1, e_h_REPLIES_2, e_h_REPLIES_3, e_h_REPLIES_4, e_h_REPLIES_5, e_h_REPLIES_6, e_h_REPLIES_7, e_h_REPLIES_8, e_h_REPLIES_9, e_h_REPLIES_10, e_h_REPLIES_11, e_h_REPLIES_12, e_h_REPLIES_13, e_h_REPLIES_14, e_h_REPLIES_15, e_h_REPLIES_16, e_h_REPLIES_17, e_h_REPLIES_18, e_h_REPLIES_19, e_h_REPLIES_20, e_h_REPLIES_21]), (by rfl), rfl⟩
    gd_REPLIES_7 := ⟨_, _, _, _, e_l_REPLIES, rfl, rfl, rfl, rfl, (by simp [e_h_REPLIES_0, e_h_REPLIES_1, e_h_REPLIES_2, e_h_REPLIES_3, e_h_REPLIES_4, e_h_REPLIES_5, e_h_REPLIES_6, e_h_REPLIES_7, e_h_REPLIES_8, e_h_REPLIES_9, e_h_REPLIES_10, e_h_REPLIES_11, e_h_REPLIES_12, e_h_REPLIES_13, e_h_REPLIES_14, e_h_REPLIES_15, e_h_REPLIES_16, e_h_REPLIES_17, e_h_REPLIES_18, e_h_REPLIES_19, e_h_REPLIES_20, e_h_REPLIES_21]), (by rfl), rfl⟩
    gd_REPLIES_8 := ⟨_, _, _, _, e_l_REPLIES, rfl, rfl, rfl, rfl, (by simp [e_h_REPLIES_0, e_h_REPLIES_1, e_h_REPLIES_2, e_h_REPLIES_3, e_h_REPLIES_4, e_h_REPLIES_5, e_h_REPLIES_6, e_h_REPLIES_7, e_h_REPLIES_8, e_h_REPLIES_9, e_h_REPLIES_10, e_h_REPLIES_11, e_h_REPLIES_12, e_h_REPLIES_13, e_h_REPLIES_14, e_h_REPLIES_15, e_h_REPLIES_16, e_h_REPLIES_17, e_h_REPLIES_18, e_h_REPLIES_19, e_h_REPLIES_20, e_h_REPLIES_21]), (by rfl), rfl⟩
    gd_REPLIES_9 := ⟨_, _, _, _, e_l_REPLIES, rfl, rfl, rfl, rfl, (by simp [e_h_REPLIES_0, e_h_REPLIES_1, e_h_REPLIES_2, e_h_REPLIES_3, e_h_REPLIES_4, e_h_REPLIES_5, e_h_REPLIES_6, e_h_REPLIES_7, e_h_REPLIES_8, e_h_REPLIES_9, e_h_REPLIES_10, e_h_REPLIES_11, e_h_REPLIES_12, e_h_REPLIES_13, e_h_REPLIES_14, e_h_REPLIES_15, e_h_REPLIES_16, e_h_REPLIES_17, e_h_REPLIES_18, e_h_REPLIES_19, e_h_REPLIES_20, e_h_REPLIES_21]), (by rfl), rfl⟩
    gd_REPLIES_10 := ⟨_, _, _, _, e_l_REPLIES, rfl, rfl, rfl, rfl, (by simp [e_h_REPLIES_0, e_h_REPLIES_1, e_h_REPLIES_2, e_h_REPLIES_3, e_h_REPLIES_4, e_h_REPLIES_5, e_h_REPLIES_6, e_h_REPLIES_7, e_h_REPLIES_8, e_h_REPLIES_9, e_h_REPLIES_10, e_h_REPLIES_11, e_h_REPLIES_12, e_h_REPLIES_13, e_h_REPLIES_14, e_h_REPLIES_15, e_h_REPLIES_16, e_h_REPLIES_17, e_h_REPLIES_18, e_h_REPLIES_19, e_h_REPLIES_20, e_h_REPLIES_21]), (by rfl), rfl⟩
    gd_REPLIES_11 := ⟨_, _, _, _, e_l_REPLIES, rfl, rfl, rfl, rfl, (by simp [e_h_REPLIES_0, e_h_REPLIES_1, e_h_REPLIES_2, e_h_REPLIES_3, e_h_REPLIES_4, e_h_REPLIES_5, e_h_REPLIES_6, e_h_REPLIES_7, e_h_REPLIES_8, e_h_REPLIES_9, e_h_REPLIES_10, e_h_REPLIES_11, e_h_REPLIES_12, e_h_REPLIES_13, e_h_REPLIES_14, e_h_REPLIES_15, e_h_REPLIES_16, e_h_REPLIES_17, e_h_REPLIES_18, e_h_REPLIES_19, e_h_REPLIES_20, e_h_REPLIES_21]), (by rfl), rfl⟩
    gd_REPLIES_12 := ⟨_, _, _, _, e_l_REPLIES, rfl, rfl, rfl, rfl, (by simp [e_h_REPLIES_0, e_h_REPLIES_1, e_h_REPLIES_2, e_h_REPLIES_3, e_h_REPLIES_4, e_h_REPLIES_5, e_h_REPLIES_6, e_h_REPLIES_7, e_h_REPLIES_8, e_h_REPLIES_9, e_h_REPLIES_10, e_h_REPLIES_11, e_h_REPLIES_12, e_h_REPLIES_13, e_h_REPLIES_14, e_h_REPLIES_15, e_h_REPLIES_16, e_h_REPLIES_17, e_h_REPLIES_18, e_h_REPLIES_19, e_h_REPLIES_20, e_h_REPLIES_21]), (by rfl), rfl⟩
    gd_REPLIES_13 := ⟨_, _, _, _, e_l_REPLIES, rfl, rfl, rfl, rfl, (by simp [e_h_REPLIES_0, e_h_REPLIES_1, e_h_REPLIES_2, e_h_REPLIES_3, e_h_REPLIES_4, e_h_REPLIES_5, e_h_REPLIES_6, e_h_REPLIES_7, e_h_REPLIES_8, e_h_REPLIES_9, e_h_REPLIES_10, e_h_REPLIES_11, e_h_REPLIES_12, e_h_REPLIES_13, e_h_REPLIES_14, e_h_REPLIES_15, e_h_REPLIES_16, e_h_REPLIES_17, e_h_REPLIES_18, e_h_REPLIES_19, e_h_REPLIES_20, e_h_REPLIES_21]), (by rfl), rfl⟩
    gd_REPLIES_14 := ⟨_, _, _, _, e_l_REPLIES, rfl, rfl, rfl, rfl, (by simp [e_h_REPLIES_0, e_h_REPLIES_1, e_h_REPLIES_2, e_h_REPLIES_3, e_h_REPLIES_4, e_h_REPLIES_5, e_h_REPLIES_6, e_h_REPLIES_7, e_h_REPLIES_8, e_h_REPLIES_9, e_h_REPLIES_10, e_h_REPLIES_11, e_h_REPLIES_12, e_h_REPLIES_13, e_h_REPLIES_14, e_h_REPLIES_15, e_h_REPLIES_16, e_h_REPLIES_17, e_h_REPLIES_18, e_h_REPLIES_19, e_h_REPLIES_20, e_h_REPLIES_21]), (by rfl), rfl⟩
    gd_REPLIES_15 := ⟨_, _, _, _, e_l_REPLIES, rfl, rfl, rfl, rfl, (by simp [e_h_REPLIES_0, e_h_REPLIES_1, e_h_REPLIES_2, e_h_REPLIES_3, e_h_REPLIES_4, e_h_REPLIES_5, e_h_REPLIES_6, e_h_REPLIES_7, e_h_REPLIES_8, e_h_REPLIES_9, e_h_REPLIES_10, e_h_REPLIES_11, e_h_REPLIES_12, e_h_REPLIES_13, e_h_REPLIES_14, e_h_REPLIES_15, e_h_REPLIES_16, e_h_REPLIES_17, e_h_REPLIES_18, e_h_REPLIES_19, e_h_REPLIES_20, e_h_REPLIES_21]), (by rfl), rfl⟩
    gd_REPLIES_16 := ⟨_, _, _, _, e_l_REPLIES, rfl, rfl, rfl, rfl, (by simp [e_h_REPLIES_0, e_h_REPLIES_1, e_h_REPLIES_2, e_h_REPLIES_3, e_h_REPLIES_4, e_h_REPLIES_5, e_h_REPLIES_6, e_h_REPLIES_7, e_h_REPLIES_8, e_h_REPLIES_9, e_h_REPLIES_10, e_h_REPLIES_11, e_h_REPLIES_12, e_h_REPLIES_13, e_h_REPLIES_14, e_h_REPLIES_15, e_h_REPLIES_16, e_h_REPLIES_17, e_h_REPLIES_18, e_h_REPLIES_19, e_h_REPLIES_20, e_h_REPLIES_21]), (by rfl), rfl⟩
    gd_REPLIES_17 := ⟨_, _, _, _, e_l_REPLIES, rfl, rfl, rfl, rfl, (by simp [e_h_REPLIES_0, e_h_REPLIES_1, e_h_REPLIES_2, e_h_REPLIES_3, e_h_REPLIES_4, e_h_REPLIES_5, e_h_REPLIES_6, e_h_REPLIES_7, e_h_REPLIES_8, e_h_REPLIES_9, e_h_REPLIES_10, e_h_REPLIES_11, e_h_REPLIES_12, e_h_REPLIES_13, e_h_REPLIES_14, e_h_REPLIES_15, e_h_REPLIES_16, e_h_REPLIES_17, e_h_REPLIES_18, e_h_REPLIES_19, e_h_REPLIES_20, e_h_REPLIES_21]), (by rfl), rfl⟩
    gd_REPLIES_18 := ⟨_, _, _, _, e_l_REPLIES, rfl, rfl, rfl, rfl, (by simp [e_h_REPLIES_0, e_h_REPLIES_1, e_h_REPLIES_2, e_h_REPLIES_3, e_h_REPLIES_4, e_h_REPLIES_5, e_h_REPLIES_6, e_h_REPLIES_7, e_h_REPLIES_8, e_h_REPLIES_9, e_h_REPLIES_10, e_h_REPLIES_11, e_h_REPLIES_12, e_h_REPLIES_13, e_h_REPLIES_14, e_h_REPLIES_15, e_h_REPLIES_16, e_h_REPLIES_17, e_h_REPLIES_18, e_h_REPLIES_19, e_h_REPLIES_20, e_h_REPLIES_21]), (by rfl), rfl⟩
    gd_REPLIES_19 := ⟨_, _, _, _, e_l_REPLIES, rfl, rfl, rfl, rfl, (by simp [e_h_REPLIES_0, e_h_REPLIES_1, e_h_REPLIES_2, e_h_REPLIES_3, e_h_REPLIES_4, e_h_REPLIES_5, e_h_REPLIES_6, e_h_REPLIES_7, e_h_REPLIES_8, e_h_REPLIES_9, e_h_REPLIES_10, e_h_REPLIES_11, e_h_REPLIES_12, e_h_REPLIES_13, e_h_REPLIES_14, e_h_REPLIES_15, e_h_REPLIES_16, e_h_REPLIES_17, e_h_REPLIES_18, e_h_REPLIES_19, e_h_REPLIES_20, e_h_REPLIES_21]), (by rfl), rfl⟩
    gd_REPLIES_20 := ⟨_, _, _, _, e_l_REPLIES, rfl, rfl, rfl, rfl, (by simp [e_h_REPLIES_0, e_h_REPLIES_1, e_h_REPLIES_2, e_h_REPLIES_3, e_h_REPLIES_4, e_h_REPLIES_5, e_h_REPLIES_6, e_h_REPLIES_7, e_h_REPLIES_8, e_h_REPLIES_9, e_h_REPLIES_10, e_h_REPLIES_11, e_h_REPLIES_12, e_h_REPLIES_13, e_h_REPLIES_14, e_h_REPLIES_15, e_h_REPLIES_16, e_h_REPLIES_17, e_h_REPLIES_18, e_h_REPLIES_19, e_h_REPLIES_20, e_h_REPLIES_21]), (by rfl), rfl⟩
    gd_REPLIES_21 := ⟨_, _, _, _, e_l_REPLIES, rfl, rfl, rfl, rfl, (by simp [e_h_REPLIES_0, e_h_REPLIES_1, e_h_REPLIES_2, e_h_REPLIES_3, e_h_REPLIES_4, e_h_REPLIES_5, e_h_REPLIES_6, e_h_REPLIES_7, e_h_REPLIES_8, e_h_REPLIES_9, e_h_REPLIES_10, e_h_REPLIES_11, e_h_REPLIES_12, e_h_REPLIES_13, e_h_REPLIES_14, e_h_REPLIES_15, e_h_REPLIES_16, e_h_REPLIES_17, e_h_REPLIES_18, e_h_REPLIES_19, e_h_REPLIES_20, e_h_REPLIES_21]), (by rfl), rfl⟩
    no_all := PySem.W.mg_none_of X G e_z_all
    no_enumerate := PySem.W.mg_none_of X G e_z_enumerate
    no_len := PySem.W.mg_none_of X G e_z_len
    no_list := PySem.W.mg_none_of X G e_z_list
    no_max := PySem.W.mg_none_of X G e_z_max
    no_min := PySem.W.mg_none_of X G e_z_min
    no_range := PySem.W.mg_none_of X G e_z_range
    no_set := PySem.W.mg_none_of X G e_z_set
    no_sorted := PySem.W.mg_none_of X G e_z_sorted
    no_sum := PySem.W.mg_none_of X G e_z_sum
    no_zip := PySem.W.mg_none_of X G e_z_zip
  }, rfl⟩
end B
open PySem PySem.W PyProof.Rows
-- the head's heap, and the one table that may grow
local macro_rules | `(tactic| o_headS ($f $k $a $e)) => `(tactic| o_headS (PySem.W.kmHook $k $a $e [378]))
set_option maxRecDepth 100000 in
set_option maxHeartbeats 0 in
theorem PySem.Challenge.cw_bladesets_s01_answers_holds : PySem.Challenge.rw_bladesets_s01_answers.Holds := by
  w_on; k_headS; (case hw => exact ⟨[.list [.int 21]], by decide +kernel, by decide +kernel⟩)
  k_fillS
  refine L2.walk_specT (r := PySem.Challenge.rw_bladesets_s01_answers) (k := 9) (CX := L2.CX0) (ps := ["calls"]) (by decide +kernel) rfl ⟨rfl, by decide, by decide⟩ (fun w h Y => PySem.W.km_in_of Y) ?F (fun _ _ _ _ z => z)
  intro w mg fa h Y KX G hmg
  have hP := PySem.W.km_tabs_of Y 378 (List.mem_singleton.mpr rfl)
  have TT := by
    refine' B.all_mk (378 : Addr) KX G ?e_g_Blade ?e_g_Works ?e_p_units_needed ?e_l_units_needed ?e_c_units_needed ?e_k_units_needed ?e_p_shortfall ?e_l_shortfall ?e_c_shortfall ?e_k_shortfall ?e_p_how_far_off ?e_l_how_far_off ?e_c_how_far_off ?e_k_how_far_off ?e_p_is_moment ?e_l_is_moment ?e_c_is_moment ?e_k_is_moment ?e_p_reply_start ?e_l_reply_start ?e_c_reply_start ?e_k_reply_start ?e_p_reply_blade ?e_l_reply_blade ?e_c_reply_blade ?e_k_reply_blade ?e_p_refusal_unless_free ?e_l_refusal_unless_free ?e_c_refusal_unless_free ?e_k_refusal_unless_free ?e_p_reply_weigh ?e_l_reply_weigh ?e_c_reply_weigh ?e_k_reply_weigh ?e_p_reply_scrap ?e_l_reply_scrap ?e_c_reply_scrap ?e_k_reply_scrap ?e_p_reply_add ?e_l_reply_add ?e_c_reply_add ?e_k_reply_add ?e_p_reply_look ?e_l_reply_look ?e_c_reply_look ?e_k_reply_look ?e_p_refusal_unless_several ?e_l_refusal_unless_several ?e_c_refusal_unless_several ?e_k_refusal_unless_several ?e_p_reply_needs ?e_l_reply_needs ?e_c_reply_needs ?e_k_reply_needs ?e_p_reply_off ?e_l_reply_off ?e_c_reply_off ?e_k_reply_off ?e_p_reply_match ?e_l_reply_match ?e_c_reply_match ?e_k_reply_match ?e_p_reply_set ?e_l_reply_set ?e_c_reply_set ?e_k_reply_set ?e_p_reply_part ?e_l_reply_part ?e_c_reply_part ?e_k_reply_part ?e_p_best_beside ?e_l_best_beside ?e_c_best_beside ?e_k_best_beside ?e_p_reply_third ?e_l_reply_third ?e_c_reply_third ?e_k_reply_third ?e_p_reply_spare ?e_l_reply_spare ?e_c_reply_spare ?e_k_reply_spare ?e_p_reply_exchange ?e_l_reply_exchange ?e_c_reply_exchange ?e_k_reply_exchange ?e_p_reply_balanced ?e_l_reply_balanced ?e_c_reply_balanced ?e_k_reply_balanced ?e_p_reply_ship ?e_l_reply_ship ?e_c_reply_ship ?e_k_reply_ship ?e_p_reply_plan ?e_l_reply_plan ?e_c_reply_plan ?e_k_reply_plan ?e_p_reply_least ?e_l_reply_least ?e_c_reply_least ?e_k_reply_least ?e_p_reply_follow ?e_l_reply_follow ?e_c_reply_follow ?e_k_reply_follow ?e_p_reply_free ?e_l_reply_free ?e_c_reply_free ?e_k_reply_free ?e_p_reply_sums ?e_l_reply_sums ?e_c_reply_sums ?e_k_reply_sums ?e_p_reply_state ?e_l_reply_state ?e_c_reply_state ?e_k_reply_state ?e_p_reply_to ?e_l_reply_to ?e_c_reply_to ?e_k_reply_to ?e_p_Blade_init ?e_i_Blade_init ?e_l_Blade_init ?e_c_Blade_init ?e_k_Blade_init ?e_p_Blade_pull ?e_i_Blade_pull ?e_l_Blade_pull ?e_c_Blade_pull ?e_k_Blade_pull ?e_p_Blade_is_free ?e_i_Blade_is_free ?e_l_Blade_is_free ?e_c_Blade_is_free ?e_k_Blade_is_free ?e_p_Blade_weigh_anew ?e_i_Blade_weigh_anew ?e_l_Blade_weigh_anew ?e_c_Blade_weigh_anew ?e_k_Blade_weigh_anew ?e_p_Works_init ?e_i_Works_init ?e_l_Works_init ?e_c_Works_init ?e_k_Works_init ?e_p_Works_begin ?e_i_Works_begin ?e_l_Works_begin ?e_c_Works_begin ?e_k_Works_begin ?e_p_Works_take_in ?e_i_Works_take_in ?e_l_Works_take_in ?e_c_Works_take_in ?e_k_Works_take_in ?e_p_Works_has_blades ?e_i_Works_has_blades ?e_l_Works_has_blades ?e_c_Works_has_blades ?e_k_Works_has_blades ?e_p_Works_of_one_kind ?e_i_Works_of_one_kind ?e_l_Works_of_one_kind ?e_c_Works_of_one_kind ?e_k_Works_of_one_kind ?e_p_Works_all_free ?e_i_Works_all_free ?e_l_Works_all_free ?e_c_Works_all_free ?e_k_Works_all_free ?e_p_Works_free_of_kind ?e_i_Works_free_of_kind ?e_l_Works_free_of_kind ?e_c_Works_free_of_kind ?e_k_Works_free_of_kind ?e_p_Works_pulls ?e_i_Works_pulls ?e_l_Works_pulls ?e_c_Works_pulls ?e_k_Works_pulls ?e_p_Works_units_for ?e_i_Works_units_for ?e_l_Works_units_for ?e_c_Works_units_for ?e_k_Works_units_for ?e_p_Works_may_be_set ?e_i_Works_may_be_set ?e_l_Works_may_be_set ?e_c_Works_may_be_set ?e_k_Works_may_be_set ?e_p_Works_needs_nothing ?e_i_Works_needs_nothing ?e_l_Works_needs_nothing ?e_c_Works_needs_nothing ?e_k_Works_needs_nothing ?e_p_Works_even_out ?e_i_Works_even_out ?e_l_Works_even_out ?e_c_Works_even_out ?e_k_Works_even_out ?e_p_Works_bind ?e_i_Works_bind ?e_l_Works_bind ?e_c_Works_bind ?e_k_Works_bind ?e_p_Works_bind_as ?e_i_Works_bind_as ?e_l_Works_bind_as ?e_c_Works_bind_as ?e_k_Works_bind_as ?e_p_Works_least_free_number ?e_i_Works_least_free_number ?e_l_Works_least_free_number ?e_c_Works_least_free_number ?e_k_Works_least_free_number ?e_p_Works_unbind ?e_i_Works_unbind ?e_l_Works_unbind ?e_c_Works_unbind ?e_k_Works_unbind ?e_p_Works_rebind ?e_i_Works_rebind ?e_l_Works_rebind ?e_c_Works_rebind ?e_k_Works_rebind ?e_p_Works_send_off ?e_i_Works_send_off ?e_l_Works_send_off ?e_c_Works_send_off ?e_k_Works_send_off ?e_p_Works_plan ?e_i_Works_plan ?e_l_Works_plan ?e_c_Works_plan ?e_k_Works_plan ?e_p_answers ?e_l_answers ?e_c_answers ?e_k_answers ?e_t_Works_plan ?e_pg_Blade ?e_hd_Blade ?e_po_Blade ?e_sa_Blade ?e_mk_Blade ?e_kc_Blade ?e_na_Blade_kind ?e_na_Blade_moment ?e_na_Blade_added ?e_na_Blade_gone ?e_na_Blade_set_and_one ?e_pg_Works ?e_hd_Works ?e_po_Works ?e_sa_Works ?e_mk_Works ?e_kc_Works ?e_na_Works_started ?e_na_Works_most ?e_na_Works_unit ?e_na_Works_blades ?e_na_Works_trios ?e_g_NO_SUCH ?e_g_NOT_STARTED ?e_g_NOT_EVEN ?e_g_NOT_FREE ?e_g_WRONG ?e_g_FULL ?e_g_NONE_LEFT ?e_g_TOO_MUCH ?e_g_GREATEST_MOST ?e_g_GREATEST_UNIT ?e_g_GREATEST_KIND ?e_g_GREATEST_MOMENT ?e_g_BLADES_AT_MOST ?e_g_START ?e_g_COUNTS ?e_l_COUNTS ?e_g_REPLIES ?e_l_REPLIES ?e_h_REPLIES_0 ?e_h_REPLIES_1 ?e_h_REPLIES_2 ?e_h_REPLIES_3 ?e_h_REPLIES_4 ?e_h_REPLIES_5 ?e_h_REPLIES_6 ?e_h_REPLIES_7 ?e_h_REPLIES_8 ?e_h_REPLIES_9 ?e_h_REPLIES_10 ?e_h_REPLIES_11 ?e_h_REPLIES_12 ?e_h_REPLIES_13 ?e_h_REPLIES_14 ?e_h_REPLIES_15 ?e_h_REPLIES_16 ?e_h_REPLIES_17 ?e_h_REPLIES_18 ?e_h_REPLIES_19 ?e_h_REPLIES_20 ?e_h_REPLIES_21 ?e_z_all ?e_z_enumerate ?e_z_len ?e_z_list ?e_z_max ?e_z_min ?e_z_range ?e_z_set ?e_z_sorted ?e_z_sum ?e_z_zip
    (case e_g_Blade => k_is)
    (case e_g_Works => k_is)
    (case e_p_units_needed => k_is)
    (case e_l_units_needed => k_is)
    (case e_c_units_needed => k_is)
    (case e_k_units_needed => k_is)
    (case e_p_shortfall => k_is)
    (case e_l_shortfall => k_is)
    (case e_c_shortfall => k_is)
    (case e_k_shortfall => k_is)
    (case e_p_how_far_off => k_is)
    (case e_l_how_far_off => k_is)
    (case e_c_how_far_off => k_is)
    (case e_k_how_far_off => k_is)
    (case e_p_is_moment => k_is)
    (case e_l_is_moment => k_is)
    (case e_c_is_moment => k_is)
    (case e_k_is_moment => k_is)
    (case e_p_reply_start => k_is)
    (case e_l_reply_start => k_is)
    (case e_c_reply_start => k_is)
    (case e_k_reply_start => k_is)
    (case e_p_reply_blade => k_is)
    (case e_l_reply_blade => k_is)
    (case e_c_reply_blade => k_is)
    (case e_k_reply_blade => k_is)
    (case e_p_refusal_unless_free => k_is)
    (case e_l_refusal_unless_free => k_is)
    (case e_c_refusal_unless_free => k_is)
    (case e_k_refusal_unless_free => k_is)
    (case e_p_reply_weigh => k_is)
    (case e_l_reply_weigh => k_is)
    (case e_c_reply_weigh => k_is)
    (case e_k_reply_weigh => k_is)
    (case e_p_reply_scrap => k_is)
    (case e_l_reply_scrap => k_is)
    (case e_c_reply_scrap => k_is)
    (case e_k_reply_scrap => k_is)
    (case e_p_reply_add => k_is)
    (case e_l_reply_add => k_is)
    (case e_c_reply_add => k_is)
    (case e_k_reply_add => k_is)
    (case e_p_reply_look => k_is)
    (case e_l_reply_look => k_is)
    (case e_c_reply_look => k_is)
    (case e_k_reply_look => k_is)
    (case e_p_refusal_unless_several => k_is)
    (case e_l_refusal_unless_several => k_is)
    (case e_c_refusal_unless_several => k_is)
    (case e_k_refusal_unless_several => k_is)
    (case e_p_reply_needs => k_is)
    (case e_l_reply_needs => k_is)
    (case e_c_reply_needs => k_is)
    (case e_k_reply_needs => k_is)
    (case e_p_reply_off => k_is)
    (case e_l_reply_off => k_is)
    (case e_c_reply_off => k_is)
    (case e_k_reply_off => k_is)
    (case e_p_reply_match => k_is)
    (case e_l_reply_match => k_is)
    (case e_c_reply_match => k_is)
    (case e_k_reply_match => k_is)
    (case e_p_reply_set => k_is)
    (case e_l_reply_set => k_is)
    (case e_c_reply_set => k_is)
    (case e_k_reply_set => k_is)
    (case e_p_reply_part => k_is)
    (case e_l_reply_part => k_is)
    (case e_c_reply_part => k_is)
    (case e_k_reply_part => k_is)
    (case e_p_best_beside => k_is)
    (case e_l_best_beside => k_is)
    (case e_c_best_beside => k_is)
    (case e_k_best_beside => k_is)
    (case e_p_reply_third => k_is)
    (case e_l_reply_third => k_is)
    (case e_c_reply_third => k_is)
    (case e_k_reply_third => k_is)
    (case e_p_reply_spare => k_is)
    (case e_l_reply_spare => k_is)
    (case e_c_reply_spare => k_is)
    (case e_k_reply_spare => k_is)
    (case e_p_reply_exchange => k_is)
    (case e_l_reply_exchange => k_is)
    (case e_c_reply_exchange => k_is)
    (case e_k_reply_exchange => k_is)
    (case e_p_reply_balanced => k_is)
    (case e_l_reply_balanced => k_is)
    (case e_c_reply_balanced => k_is)
    (case e_k_reply_balanced => k_is)
    (case e_p_reply_ship => k_is)
    (case e_l_reply_ship => k_is)
    (case e_c_reply_ship => k_is)
    (case e_k_reply_ship => k_is)
    (case e_p_reply_plan => k_is)
    (case e_l_reply_plan => k_is)
    (case e_c_reply_plan => k_is)
    (case e_k_reply_plan => k_is)
    (case e_p_reply_least => k_is)
    (case e_l_reply_least => k_is)
    (case e_c_reply_least => k_is)
    (case e_k_reply_least => k_is)
    (case e_p_reply_follow => k_is)
    (case e_l_reply_follow => k_is)
    (case e_c_reply_follow => k_is)
    (case e_k_reply_follow => k_is)
    (case e_p_reply_free => k_is)
    (case e_l_reply_free => k_is)
    (case e_c_reply_free => k_is)
    (case e_k_reply_free => k_is)
    (case e_p_reply_sums => k_is)
    (case e_l_reply_sums => k_is)
    (case e_c_reply_sums => k_is)
    (case e_k_reply_sums => k_is)
    (case e_p_reply_state => k_is)
    (case e_l_reply_state => k_is)
    (case e_c_reply_state => k_is)
    (case e_k_reply_state => k_is)
    (case e_p_reply_to => k_is)
    (case e_l_reply_to => k_is)
    (case e_c_reply_to => k_is)
    (case e_k_reply_to => k_is)
    (case e_p_Blade_init => k_is)
    (case e_i_Blade_init => k_is)
    (case e_l_Blade_init => k_is)
    (case e_c_Blade_init => k_is)
    (case e_k_Blade_init => k_is)
    (case e_p_Blade_pull => k_is)
    (case e_i_Blade_pull => k_is)
    (case e_l_Blade_pull => k_is)
    (case e_c_Blade_pull => k_is)
    (case e_k_Blade_pull => k_is)
    (case e_p_Blade_is_free => k_is)
    (case e_i_Blade_is_free => k_is)
    (case e_l_Blade_is_free => k_is)
    (case e_c_Blade_is_free => k_is)
    (case e_k_Blade_is_free => k_is)
    (case e_p_Blade_weigh_anew => k_is)
    (case e_i_Blade_weigh_anew => k_is)
    (case e_l_Blade_weigh_anew => k_is)
    (case e_c_Blade_weigh_anew => k_is)
    (case e_k_Blade_weigh_anew => k_is)
    (case e_p_Works_init => k_is)
    (case e_i_Works_init => k_is)
    (case e_l_Works_init => k_is)
    (case e_c_Works_init => k_is)
    (case e_k_Works_init => k_is)
    (case e_p_Works_begin => k_is)
    (case e_i_Works_begin => k_is)
    (case e_l_Works_begin => k_is)
    (case e_c_Works_begin => k_is)
    (case e_k_Works_begin => k_is)
    (case e_p_Works_take_in => k_is)
    (case e_i_Works_take_in => k_is)
    (case e_l_Works_take_in => k_is)
    (case e_c_Works_take_in => k_is)
    (case e_k_Works_take_in => k_is)
    (case e_p_Works_has_blades => k_is)
    (case e_i_Works_has_blades => k_is)
    (case e_l_Works_has_blades => k_is)
    (case e_c_Works_has_blades => k_is)
    (case e_k_Works_has_blades => k_is)
    (case e_p_Works_of_one_kind => k_is)
    (case e_i_Works_of_one_kind => k_is)
    (case e_l_Works_of_one_kind => k_is)
    (case e_c_Works_of_one_kind => k_is)
    (case e_k_Works_of_one_kind => k_is)
    (case e_p_Works_all_free => k_is)
    (case e_i_Works_all_free => k_is)
    (case e_l_Works_all_free => k_is)
    (case e_c_Works_all_free => k_is)
    (case e_k_Works_all_free => k_is)
    (case e_p_Works_free_of_kind => k_is)
    (case e_i_Works_free_of_kind => k_is)
    (case e_l_Works_free_of_kind => k_is)
    (case e_c_Works_free_of_kind => k_is)
    (case e_k_Works_free_of_kind => k_is)
    (case e_p_Works_pulls => k_is)
    (case e_i_Works_pulls => k_is)
    (case e_l_Works_pulls => k_is)
    (case e_c_Works_pulls => k_is)
    (case e_k_Works_pulls => k_is)
    (case e_p_Works_units_for => k_is)
    (case e_i_Works_units_for => k_is)
    (case e_l_Works_units_for => k_is)
    (case e_c_Works_units_for => k_is)
    (case e_k_Works_units_for => k_is)
    (case e_p_Works_may_be_set => k_is)
    (case e_i_Works_may_be_set => k_is)
    (case e_l_Works_may_be_set => k_is)
    (case e_c_Works_may_be_set => k_is)
    (case e_k_Works_may_be_set => k_is)
    (case e_p_Works_needs_nothing => k_is)
    (case e_i_Works_needs_nothing => k_is)
    (case e_l_Works_needs_nothing => k_is)
    (case e_c_Works_needs_nothing => k_is)
    (case e_k_Works_needs_nothing => k_is)
    (case e_p_Works_even_out => k_is)
    (case e_i_Works_even_out => k_is)
    (case e_l_Works_even_out => k_is)
    (case e_c_Works_even_out => k_is)
    (case e_k_Works_even_out => k_is)
    (case e_p_Works_bind => k_is)
    (case e_i_Works_bind => k_is)
    (case e_l_Works_bind => k_is)
    (case e_c_Works_bind => k_is)
    (case e_k_Works_bind => k_is)
    (case e_p_Works_bind_as => k_is)
    (case e_i_Works_bind_as => k_is)
    (case e_l_Works_bind_as => k_is)
    (case e_c_Works_bind_as => k_is)
    (case e_k_Works_bind_as => k_is)
    (case e_p_Works_least_free_number => k_is)
    (case e_i_Works_least_free_number => k_is)
    (case e_l_Works_least_free_number => k_is)
    (case e_c_Works_least_free_number => k_is)
    (case e_k_Works_least_free_number => k_is)
    (case e_p_Works_unbind => k_is)
    (case e_i_Works_unbind => k_is)
    (case e_l_Works_unbind => k_is)
    (case e_c_Works_unbind => k_is)
    (case e_k_Works_unbind => k_is)
    (case e_p_Works_rebind => k_is)
    (case e_i_Works_rebind => k_is)
    (case e_l_Works_rebind => k_is)
    (case e_c_Works_rebind => k_is)
    (case e_k_Works_rebind => k_is)
    (case e_p_Works_send_off => k_is)
    (case e_i_Works_send_off => k_is)
    (case e_l_Works_send_off => k_is)
    (case e_c_Works_send_off => k_is)
    (case e_k_Works_send_off => k_is)
    (case e_p_Works_plan => k_is)
    (case e_i_Works_plan => k_is)
    (case e_l_Works_plan => k_is)
    (case e_c_Works_plan => k_is)
    (case e_k_Works_plan => k_is)
    (case e_p_answers => k_is)
    (case e_l_answers => k_is)
    (case e_c_answers => k_is)
    (case e_k_answers => k_is)
    (case e_t_Works_plan => kernel_rfl)
    (case e_pg_Blade => k_is)
    (case e_hd_Blade => k_is)
    (case e_po_Blade => k_is)
    (case e_sa_Blade => k_is)
    (case e_mk_Blade => k_is)
    (case e_kc_Blade => k_is)
    (case e_na_Blade_kind => k_is)
    (case e_na_Blade_moment => k_is)
    (case e_na_Blade_added => k_is)
    (case e_na_Blade_gone => k_is)
    (case e_na_Blade_set_and_one => k_is)
    (case e_pg_Works => k_is)
    (case e_hd_Works => k_is)
    (case e_po_Works => k_is)
    (case e_sa_Works => k_is)
    (case e_mk_Works => k_is)
    (case e_kc_Works => k_is)
    (case e_na_Works_started => k_is)
    (case e_na_Works_most => k_is)
    (case e_na_Works_unit => k_is)
    (case e_na_Works_blades => k_is)
    (case e_na_Works_trios => k_is)
    (case e_g_NO_SUCH => k_is)
    (case e_g_NOT_STARTED => k_is)
    (case e_g_NOT_EVEN => k_is)
    (case e_g_NOT_FREE => k_is)
    (case e_g_WRONG => k_is)
    (case e_g_FULL => k_is)
    (case e_g_NONE_LEFT => k_is)
    (case e_g_TOO_MUCH => k_is)
    (case e_g_GREATEST_MOST => k_is)
    (case e_g_GREATEST_UNIT => k_is)
    (case e_g_GREATEST_KIND => k_is)
    (case e_g_GREATEST_MOMENT => k_is)
    (case e_g_BLADES_AT_MOST => k_is)
    (case e_g_START => k_is)
    (case e_g_COUNTS => k_is)
    (case e_l_COUNTS => k_is)
    (case e_g_REPLIES => k_is)
    (case e_l_REPLIES => k_is)
    (case e_h_REPLIES_0 => rfl)
    (case e_h_REPLIES_1 => rfl)
    (case e_h_REPLIES_2 => rfl)
    (case e_h_REPLIES_3 => rfl)
    (case e_h_REPLIES_4 => rfl)
    (case e_h_REPLIES_5 => rfl)
    (case e_h_REPLIES_6 => rfl)
    (case e_h_REPLIES_7 => rfl)
    (case e_h_REPLIES_8 => rfl)
    (case e_h_REPLIES_9 => rfl)
    (case e_h_REPLIES_10 => rfl)
    (case e_h_REPLIES_11 => rfl)
    (case e_h_REPLIES_12 => rfl)
    (case e_h_REPLIES_13 => rfl)
    (case e_h_REPLIES_14 => rfl)
    (case e_h_REPLIES_15 => rfl)
    (case e_h_REPLIES_16 => rfl)
    (case e_h_REPLIES_17 => rfl)
    (case e_h_REPLIES_18 => rfl)
    (case e_h_REPLIES_19 => rfl)
    (case e_h_REPLIES_20 => rfl)
    (case e_h_REPLIES_21 => rfl)
    (case e_z_all => k_is)
    (case e_z_enumerate => k_is)
    (case e_z_len => k_is)
    (case e_z_list => k_is)
    (case e_z_max => k_is)
    (case e_z_min => k_is)
    (case e_z_range => k_is)
    (case e_z_set => k_is)
    (case e_z_sorted => k_is)
    (case e_z_sum => k_is)
    (case e_z_zip => k_is)
  obtain ⟨T, hTP⟩ := TT
  have hfa : T.f_answers = fa := by
    have q := T.mg_answers
    rw [show mg _ = _ from hmg] at q
    cases q
    rfl
  subst hfa
  obtain ⟨c, hc, hC⟩ := T.cd_Works_plan
  refine ⟨T.fd_answers, B.sp_answers T, T.P_Works_plan, c, T.b_answers, by rw [hTP]; exact hP, hC, by rw [hTP]; kernel_rfl, fun base hK hN hB => B.ok_answers T hB, ?_⟩
  · intro H H2 xs a sm hp hwi hask hx
    cases hx with
    | cons h1 h2 =>
      cases h2
      cases h1 with
      | lst hs ha =>
        have e := L2.ints_dw a.1 _ ha
        subst e
        have q : ((Codec.inLen 0 800 a.1 && a.1.all (Codec.inInt 0 4294967295)) && true) = true := hwi
        rw [Bool.and_eq_true, Bool.and_eq_true] at q
        refine ⟨_, a.1, rfl, ⟨#[], hp, .inl rfl⟩, sm.seq hs, (Codec.inNat_iff.mp q.1.1).2, ?_, hask, fun H' p hp => .lst (L2.SqL.of hp) (L2.dw_ints _)⟩
        intro x hx
        exact Codec.inInt_iff.mp (List.all_eq_true.mp q.1.2 x hx)
