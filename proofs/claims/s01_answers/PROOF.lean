import PyProof.Rows.All
import Wide.All
import OpenK.AllK
import Wide.FinOn
import PyProof.EqAt
import PyProof.EqKinds
import PyProof.TupleCall
import KE.BitLaws
import Open.SpecLaws
import KE.OsHead
import KE.OsGo
import KE.KDictList
import KE.KDictSum
import PyProof.Rows.SetFrom
import PySem.Challenge.RW_bladecrane_s01_answers
set_option Elab.async false
set_option linter.all false
set_option maxRecDepth 100000
/-! THE HAND LAYER, for ints, bools, texts, own classes, lists, tuples, dicts, comprehensions, walks over dicts, enumerate, zip, reversed, texts, calls, loops. Paste it whole ahead of your own text; what your proof does not reach may be deleted. -/
namespace L2
open PySem PySem.Spec PyProof.Rows
/-- a key: an int or a str -/
abbrev Key := Sum Int Str
def keyIs : Key → Value → Bool
  | .inl k, v => Value.isInt k v
  | .inr x, v => Value.isStrOf x v
def keyH (w : World) : Key → Int
  | .inl k => hashInt k
  | .inr x => hashStr w x
theorem keyIs_shape : ∀ {k : Key} {v : Value}, keyIs k v = true → (∃ i t, k = Sum.inl i ∧ v = Value.int i t) ∨ (∃ x t, k = Sum.inr x ∧ v = Value.str x t)
  | .inl i, v, h => by
    obtain ⟨t, e⟩ := Value.isInt_shape (k := i) (v := v) h
    exact .inl ⟨i, t, rfl, e⟩
  | .inr x, v, h => by
    obtain ⟨t, e⟩ := Value.isStrOf_shape (x := x) (v := v) h
    exact .inr ⟨x, t, rfl, e⟩
theorem keyIs_int (i : Int) (t : Tok) : keyIs (.inl i) (.int i t) = true := by simp [keyIs, Value.isInt]
theorem keyIs_str (x : Str) (t : Tok) : keyIs (.inr x) (.str x t) = true := by simp [keyIs, Value.isStrOf]
theorem key_ll (a b : Int) : decide ((Sum.inl a : Key) = Sum.inl b) = (a == b) := by
  by_cases e : a = b
  · subst e; simp
  · have h : ¬ (Sum.inl a : Key) = Sum.inl b := fun q => e (Sum.inl.inj q)
    rw [decide_eq_false h]
    exact (beq_eq_false_iff_ne.mpr e).symm
theorem key_rr (a b : Str) : decide ((Sum.inr a : Key) = Sum.inr b) = decide (a = b) := by
  by_cases e : a = b
  · subst e; simp
  · have h : ¬ (Sum.inr a : Key) = Sum.inr b := fun q => e (Sum.inr.inj q)
    rw [decide_eq_false h, decide_eq_false e]
theorem key_lr (a : Int) (b : Str) : decide ((Sum.inl a : Key) = Sum.inr b) = false := decide_eq_false (fun q => nomatch q)
theorem key_rl (a : Str) (b : Int) : decide ((Sum.inr a : Key) = Sum.inl b) = false := decide_eq_false (fun q => nomatch q)
def mixKind (prog : Program) (w : World) : PySem.KeyKind prog w Key where
  is := keyIs
  hash := keyH w
  inj := fun v a b ha hb => by
    rcases keyIs_shape ha with ⟨i, t, rfl, rfl⟩ | ⟨x, t, rfl, rfl⟩
    · rcases keyIs_shape hb with ⟨j, u, rfl, e⟩ | ⟨y, u, rfl, e⟩
      · injection e with e1 _; rw [e1]
      · exact nomatch e
    · rcases keyIs_shape hb with ⟨j, u, rfl, e⟩ | ⟨y, u, rfl, e⟩
      · exact nomatch e
      · injection e with e1 _; rw [e1]
  byValue := fun k v h => by
    rcases keyIs_shape h with ⟨i, t, rfl, rfl⟩ | ⟨x, t, rfl, rfl⟩ <;> rfl
  pyHash := fun hv h => by
    rcases keyIs_shape hv with ⟨i, t, rfl, rfl⟩ | ⟨x, t, rfl, rfl⟩
    · exact wpAny_pyHash_int h
    · exact wpAny_pyHash_str h
  eqBool := fun hu hv h => by
    rcases keyIs_shape hu with ⟨i, t, rfl, rfl⟩ | ⟨x, t, rfl, rfl⟩
    · rcases keyIs_shape hv with ⟨j, u, rfl, rfl⟩ | ⟨y, u, rfl, rfl⟩
      · rw [key_ll] at h; exact wpAny_eqBool_int h
      · rw [key_lr] at h; exact SeqAt.EqAt.int_str i t y u _ _ _ _ h
    · rcases keyIs_shape hv with ⟨j, u, rfl, rfl⟩ | ⟨y, u, rfl, rfl⟩
      · rw [key_rl] at h; exact SeqAt.EqAt.str_int x t j u _ _ _ _ h
      · rw [key_rr] at h; exact wpAny_eqBool_str h
  «strs» := fun k x t v h => by
    rcases keyIs_shape h with ⟨i, u, rfl, e⟩ | ⟨y, u, rfl, e⟩
    · exact nomatch e
    · injection e with e1 _
      subst e1
      cases v <;> rfl
theorem mixKind_int (prog : Program) (w : World) (i : Int) (t : Tok) : (mixKind prog w).is (.inl i) (.int i t) = true := keyIs_int i t
theorem mixKind_str (prog : Program) (w : World) (x : Str) (t : Tok) : (mixKind prog w).is (.inr x) (.str x t) = true := keyIs_str x t
end L2
namespace L2
open PySem PySem.Spec PyProof.Rows
/-- a value, without the heap -/
inductive V where
  | non | bl (b : Bool) | int (i : Int) | str (x : Str) | byt (b : Array UInt8) | flt (b : UInt64) | ref (a : Addr) | ty (n : String)
  deriving DecidableEq
def RelV : V → Value → Prop
  | .non, u => u = Value.none
  | .bl b, u => u = Value.bool b
  | .int i, u => ∃ t, u = Value.int i t
  | .str x, u => ∃ t, u = Value.str x t
  | .byt b, u => ∃ t, u = Value.bytes b t
  | .flt b, u => ∃ t, u = Value.float b t
  | .ref a, u => u = Value.ref a
  | .ty n, u => u = Value.type n
abbrev Vals : List V → List Value → Prop := Paired RelV
theorem Vals.length {xs : List V} {us : List Value} (r : Vals xs us) : xs.length = us.length := Paired.length r
theorem Vals.get : ∀ {xs : List V} {us : List Value} {i : Nat} {x : V}, Vals xs us → xs[i]? = some x → ∃ u, us[i]? = some u ∧ RelV x u
  | _, _, _, _, .nil, e => by simp at e
  | _, _, 0, _, .cons r _, e => by simp at e; subst e; exact ⟨_, rfl, r⟩
  | _, _, i + 1, x, .cons _ t, e => by
    obtain ⟨u, h1, h2⟩ := Vals.get (i := i) (x := x) t (by simpa using e)
    exact ⟨u, by simpa using h1, h2⟩
theorem Vals.append : ∀ {xs ys : List V} {us ws : List Value}, Vals xs us → Vals ys ws → Vals (xs ++ ys) (us ++ ws)
  | _, _, _, _, .nil, s => s
  | _, _, _, _, .cons r t, s => .cons r (Vals.append t s)
theorem Vals.take : ∀ {xs : List V} {us : List Value} (n : Nat), Vals xs us → Vals (xs.take n) (us.take n)
  | _, _, 0, _ => .nil
  | _, _, _ + 1, .nil => .nil
  | _, _, n + 1, .cons r t => .cons r (Vals.take n t)
theorem Vals.drop : ∀ {xs : List V} {us : List Value} (n : Nat), Vals xs us → Vals (xs.drop n) (us.drop n)
  | _, _, 0, r => r
  | _, _, _ + 1, .nil => .nil
  | _, _, n + 1, .cons _ t => Vals.drop n t
def RelO : Option V → Option Value → Prop
  | some v, some u => RelV v u
  | none, none => True
  | _, _ => False
def KV {κ : Type} : List (κ × V) → List (κ × Value) → Prop := Paired fun (p : κ × V) (q : κ × Value) => p.1 = q.1 ∧ RelV p.2 q.2
/-- a key of a dict (00_mix): an int or a text -/
def kV : Key → V
  | .inl i => .int i
  | .inr x => .str x
/-- what stands at a tracked address -/
inductive HO where
  /-- a list -/
  | lst (xs : List V)
  /-- a tuple (never changes) -/
  | tup (xs : List V)
  /-- a dict whose keys are ints and texts; one whose keys are tuples of ints and texts (the empty one is both) -/
  | dK (kvs : List (Key × V)) | dT (kvs : List (List Key × V))
  /-- a set of ints: its members, its size -/
  | set (S : Int → Bool) (n : Nat)
  /-- an instance of the class at C, its dict at dx, its attributes -/
  | ins (C dx : Addr) (fs : List (Str × V))
  /-- the dict of the instance at x -/
  | own (x : Addr)
  /-- the dict of an exception -/
  | xd (fs : List (Str × V))
  /-- a bound method, f of x -/
  | met (f x : Addr)
  /-- a range object lo, lo + 1, .. below hi -/
  | rng (lo hi : Int)
  /-- a thing that is known to the object (the script; a dict while a loop walks it): read, never written while it is so -/
  | frz (o : Obj) (u : HO)
  /-- a code object's table -/
  | tbl (ps : Array Value)
  /-- any other thing, by what is true of its one object (a def of one's own: SetO a S n := HO.ext fun h => ..) -/
  | ext (φ : Heap → Prop)
abbrev Hp := Addr → Option HO
def upd (H : Hp) (a : Addr) (o : HO) : Hp := fun b => if b = a then some o else H b
theorem upd_same {H : Hp} {a : Addr} {o : HO} : upd H a o a = some o := by unfold upd; rw [if_pos rfl]
theorem upd_ne {H : Hp} {a b : Addr} {o : HO} (h : b ≠ a) : upd H a o b = H b := by unfold upd; rw [if_neg h]
theorem upd_upd {H : Hp} {a : Addr} {o u : HO} : upd (upd H a o) a u = upd H a u := by
  funext b; unfold upd; split <;> rfl
/-- two objects of different content stand apart -/
theorem ne_of {H : Hp} {a b : Addr} {o u : HO} (h : H a = some o) (h' : H b = some u) (d : o ≠ u) : a ≠ b := by
  intro e; subst e; rw [h] at h'; exact d (Option.some.inj h')
theorem ne_of_none {H : Hp} {a b : Addr} {o : HO} (h : H a = some o) (h' : H b = none) : a ≠ b := by
  intro e; subst e; rw [h] at h'; cases h'
section
variable (P : Program) (w : World)
def ObjOk (H : Hp) (h : Heap) (a : Addr) : HO → Prop
  | .lst xs => xs.length ≤ sizeLine ∧ ∃ (its : List Value) (n : Nat), Vals xs its ∧ h.get? a = some { cls := .type "list", data := .seq its.toArray n }
  | .tup xs => xs.length ≤ sizeLine ∧ ∃ its : List Value, Vals xs its ∧ IsTup h a its.toArray
  | .dK kvs => kvs.length ≤ sizeLine ∧ (a == sysModules) = false ∧ ∃ vs, KV kvs vs ∧ h.DictOf (mixKind P w) a vs
  | .dT kvs => kvs.length ≤ sizeLine ∧ (a == sysModules) = false ∧ ∃ xs : List (List Key × Addr × Value),
      Paired (fun (p : List Key × V) (q : List Key × Addr × Value) => p.1 = q.1 ∧ H q.2.1 = some (.tup (p.1.map kV)) ∧ RelV p.2 q.2.2) kvs xs ∧
      ∃ o es ep, h.get? a = some o ∧ o.ExactDict ∧ o.data = .dict es ep ∧ es.toList = xs.map (entryOfKey (tupleKind (mixKind P w))) ∧ (xs.map (·.1)).Nodup
  | .set S n => h.SetOf (intKind P w) a S n
  | .ins C dx fs => H dx = some (.own a) ∧ fs.length ≤ 1000 ∧ dx ≠ a ∧ h.get? a = some (PySem.W.instObj C dx) ∧
      ∃ mA, h.Ns1 dx mA ∧ (∀ f, RelO (fs.lookup f) (mA f)) ∧ PySem.Within mA (fs.map (·.1))
  | .own _ => ∃ o, h.get? a = some o
  | .xd fs => ∃ mA, h.Ns1 a mA ∧ ∀ f, RelO (fs.lookup f) (mA f)
  | .rng lo hi => ∃ t u v, h.get? a = some { cls := .type "range", data := .fields #[.int lo t, .int hi u, .int 1 v] }
  | .frz o u => h.get? a = some o ∧ ObjOk H h a u
  | .tbl ps => h.get? a = some { cls := .none, data := .fields ps }
  | .met f x => h.get? a = some (PySem.W.methodObj (.ref f) (.ref x))
  | .ext φ => φ h ∧ (∃ o, h.get? a = some o) ∧ ∀ h1 h2 : Heap, φ h1 → (∀ o, h1.get? a = some o → h2.get? a = some o) → φ h2
/-- the abstract heap is held -/
def HOk (H : Hp) (h : Heap) : Prop := ∀ a o, H a = some o → ObjOk P w H h a o
end
section
variable {P : Program} {w : World} {H H' : Hp} {h h' : Heap} {a : Addr} {o : HO}
theorem ObjOk.lt (x : ObjOk P w H h a o) : a < h.objs.size := by
  cases o with
  | lst xs => obtain ⟨_, _, _, _, e⟩ := x; exact Heap.lt_size e
  | tup xs => obtain ⟨_, _, _, p⟩ := x; exact p.lt
  | dK kvs => obtain ⟨_, _, _, _, o, _, _, e, _⟩ := x; exact Heap.lt_size e
  | dT kvs => obtain ⟨_, _, _, _, o, _, _, e, _⟩ := x; exact Heap.lt_size e
  | set S n => obtain ⟨o, _, _, _, e, _⟩ := x; exact Heap.lt_size e
  | ins C dx fs => obtain ⟨_, _, _, e, _⟩ := x; exact Heap.lt_size e
  | own y => obtain ⟨_, e⟩ := x; exact Heap.lt_size e
  | xd fs => obtain ⟨_, ⟨_, _, _, e, _⟩, _⟩ := x; exact Heap.lt_size e
  | rng lo hi => obtain ⟨_, _, _, e⟩ := x; exact Heap.lt_size e
  | frz ob u => obtain ⟨e, _⟩ := x; exact Heap.lt_size e
  | tbl ps => exact Heap.lt_size (show h.get? a = some _ from x)
  | met f y => exact Heap.lt_size (show h.get? a = some _ from x)
  | ext φ => obtain ⟨_, ⟨_, e⟩, _⟩ := x; exact Heap.lt_size e
theorem Paired.mapP {α β : Type} {F G : α → β → Prop} : ∀ {l₁ : List α} {l₂ : List β}, Paired F l₁ l₂ → (∀ a b, F a b → G a b) → Paired G l₁ l₂
  | _, _, .nil, _ => .nil
  | _, _, .cons r t, f => .cons (f _ _ r) (Paired.mapP t f)
/-- what an object's description leans on: its own object, its own dict, the tuples -/
theorem ObjOk.stay (x : ObjOk P w H h a o) (k : ∀ b u, (b = a ∨ H b = some (.own a)) → h.get? b = some u → h'.get? b = some u)
    (ho : ∀ b, H b = some (.own a) → H' b = some (.own a)) (ht : ∀ b xs, H b = some (.tup xs) → H' b = some (.tup xs)) : ObjOk P w H' h' a o := by
  induction o with
  | lst xs => obtain ⟨z, its, n, r, e⟩ := x; exact ⟨z, its, n, r, k _ _ (.inl rfl) e⟩
  | tup xs => obtain ⟨z, its, r, ob, e, c⟩ := x; exact ⟨z, its, r, ob, k _ _ (.inl rfl) e, c⟩
  | dK kvs => obtain ⟨z, y, vs, r, ob, es, ep, e, c⟩ := x; exact ⟨z, y, vs, r, ob, es, ep, k _ _ (.inl rfl) e, c⟩
  | dT kvs =>
    obtain ⟨z, y, xs, r, ob, es, ep, e, c⟩ := x
    exact ⟨z, y, xs, Paired.mapP r fun p q z => ⟨z.1, ht _ _ z.2.1, z.2.2⟩, ob, es, ep, k _ _ (.inl rfl) e, c⟩
  | set S n => obtain ⟨ob, es, ep, t, e, c⟩ := x; exact ⟨ob, es, ep, t, k _ _ (.inl rfl) e, c⟩
  | ins C dx fs =>
    obtain ⟨d, z, ne, e, mA, ⟨od, es, ep, e2, c⟩, r⟩ := x
    exact ⟨ho _ d, z, ne, k _ _ (.inl rfl) e, mA, ⟨od, es, ep, k _ _ (.inr d) e2, c⟩, r⟩
  | own y => obtain ⟨ob, e⟩ := x; exact ⟨ob, k _ _ (.inl rfl) e⟩
  | xd fs => obtain ⟨mA, ⟨od, es, ep, e, c⟩, r⟩ := x; exact ⟨mA, ⟨od, es, ep, k _ _ (.inl rfl) e, c⟩, r⟩
  | rng lo hi => obtain ⟨t, u, v, e⟩ := x; exact ⟨t, u, v, k _ _ (.inl rfl) e⟩
  | frz ob u ih => obtain ⟨e, q⟩ := x; exact ⟨k _ _ (.inl rfl) e, ih q⟩
  | tbl ps =>
    have e : h.get? a = some { cls := .none, data := .fields ps } := x
    show h'.get? a = some { cls := .none, data := .fields ps }
    exact k a _ (.inl rfl) e
  | met f y =>
    have e : h.get? a = some (PySem.W.methodObj (.ref f) (.ref y)) := x
    show h'.get? a = some (PySem.W.methodObj (.ref f) (.ref y))
    exact k a _ (.inl rfl) e
  | ext φ => obtain ⟨p, ⟨o, e⟩, st⟩ := x; exact ⟨st _ _ p fun o q => k _ _ (.inl rfl) q, ⟨o, k _ _ (.inl rfl) e⟩, st⟩
theorem HOk.lt (x : HOk P w H h) (e : H a = some o) : a < h.objs.size := (x a o e).lt
theorem HOk.fresh (x : HOk P w H h) (e : h.objs.size ≤ a) : H a = none := by
  cases q : H a with
  | none => rfl
  | some u => exact absurd (Nat.lt_of_lt_of_le (x.lt q) e) (Nat.lt_irrefl _)
/-- every object of the heap is kept -/
theorem HOk.kept (x : HOk P w H h) (k : ∀ b u, h.get? b = some u → h'.get? b = some u) : HOk P w H h' := fun a o e =>
  (x a o e).stay (fun b u _ q => k b u q) (fun _ q => q) fun _ _ q => q
/-- a new object is laid and tracked -/
theorem HOk.laid (x : HOk P w H h) (k : ∀ b u, h.get? b = some u → h'.get? b = some u) (hp : h.objs.size ≤ a) (new : ObjOk P w (upd H a o) h' a o) : HOk P w (upd H a o) h' := fun b u e => by
  have hn := x.fresh hp
  by_cases hb : b = a
  · subst hb; rw [upd_same] at e; cases e; exact new
  · rw [upd_ne hb] at e
    exact (x b u e).stay (fun c v _ q => k c v q) (fun c q => by rw [upd_ne (ne_of_none q hn)]; exact q) fun c xs q => by rw [upd_ne (ne_of_none q hn)]; exact q
end
/-- what may be read as u: it is u, or a known u -/
def Rd (H : Hp) (a : Addr) (u : HO) : Prop := H a = some u ∨ ∃ o, H a = some (.frz o u)
theorem Rd.ok {P : Program} {w : World} {H : Hp} {h : Heap} {a : Addr} {u : HO} (r : Rd H a u) (x : HOk P w H h) : ObjOk P w H h a u := by
  rcases r with r | ⟨o, r⟩
  · exact x a u r
  · obtain ⟨_, q⟩ := x a _ r
    exact q
/-- what may be written -/
def Mut : Option HO → Prop
  | some (.lst _) => True
  | some (.dK _) => True
  | some (.dT _) => True
  | some (.set _ _) => True
  | some (.ins _ _ _) => True
  | some (.ext _) => True
  | _ => False
section
variable {P : Program} {w : World} {H : Hp} {h h' : Heap} {x e : Addr} {o' : HO}
/-- the object at e is changed: x itself, or the dict of the instance x -/
theorem HOk.write (ok : HOk P w H h) (mu : Mut (H x)) (he : e = x ∨ H e = some (.own x)) (k : ∀ b u, b ≠ e → h.get? b = some u → h'.get? b = some u) (heo : ∃ u, h'.get? e = some u)
    (new : ObjOk P w (upd H x o') h' x o') : HOk P w (upd H x o') h' := fun b u q => by
  have nown : ∀ c y, H c = some (.own y) → c ≠ x := fun c y r z => by subst z; rw [r] at mu; exact mu
  have ntup : ∀ c xs, H c = some (.tup xs) → c ≠ x := fun c xs r z => by subst z; rw [r] at mu; exact mu
  by_cases hb : b = x
  · subst hb; rw [upd_same] at q; cases q; exact new
  · rw [upd_ne hb] at q
    by_cases hbe : b = e
    · have q' : H b = some (.own x) := by
        rcases he with z | z
        · exact absurd (hbe.trans z) hb
        · rw [hbe]; exact z
      rw [q] at q'; cases q'
      obtain ⟨v, hv⟩ := heo
      exact ⟨v, by rw [hbe]; exact hv⟩
    · refine (ok b u q).stay (fun c v hc r => k c v ?_ r) (fun c r => by rw [upd_ne (nown c b r)]; exact r) fun c xs r => by rw [upd_ne (ntup c xs r)]; exact r
      rcases hc with rfl | hc
      · exact hbe
      · rintro rfl
        rcases he with z | z
        · exact nown c b hc z
        · rw [hc] at z; cases z; exact hb rfl
end
/-! ### kept unless tracked; of the frames at fs (the callers') the slots may change (an exception that passes writes there); of the records at ex (iterators) nothing is said -/
structure Un (fs ex : List Addr) (H H' : Hp) (h h' : Heap) : Prop where
  keep : ∀ b o, h.get? b = some o → H b = none → b ∉ fs → b ∉ ex → h'.get? b = some o
  slot : ∀ b o, h.get? b = some o → H b = none → b ∈ fs → b ∉ ex → ∃ sl, h'.get? b = some { o with slots := sl }
  free : ∀ b o, h.get? b = some o → H b = none → b ∉ ex → H' b = none
  there : ∀ b o, h.get? b = some o → b ∉ ex → ∃ o', h'.get? b = some o'
  tups : ∀ b xs, H b = some (.tup xs) → H' b = some (.tup xs)
  frzs : ∀ b o u, H b = some (.frz o u) → H' b = some (.frz o u)
  tbls : ∀ b ps, H b = some (.tbl ps) → ∃ more, H' b = some (.tbl (ps ++ more))
section
variable {fs fs' ex ex' : List Addr} {H H1 H2 : Hp} {h h1 h2 h' : Heap} {a x e : Addr} {o : HO}
theorem Un.any (u : Un fs ex H H1 h h1) {b : Addr} {ob : Obj} (q : h.get? b = some ob) (n : H b = none) (hx : b ∉ ex) : ∃ sl, h1.get? b = some { ob with slots := sl } := by
  by_cases hb : b ∈ fs
  · exact u.slot b ob q n hb hx
  · exact ⟨ob.slots, u.keep b ob q n hb hx⟩
theorem Un.kept (k : ∀ b u, h.get? b = some u → h'.get? b = some u) : Un fs ex H H h h' :=
  ⟨fun b ob q _ _ _ => k b ob q, fun b ob q _ _ _ => ⟨ob.slots, k b ob q⟩, fun _ _ _ n _ => n, fun b ob q _ => ⟨ob, k b ob q⟩, fun _ _ q => q, fun _ _ _ q => q, fun _ ps q => ⟨#[], by rw [q]; simp⟩⟩
theorem Un.refl : Un fs ex H H h h := Un.kept fun _ _ q => q
theorem Un.laid (k : ∀ b u, h.get? b = some u → h'.get? b = some u) (hp : h.objs.size ≤ a) (hn : H a = none) : Un fs ex H (upd H a o) h h' where
  keep := fun b u q _ _ _ => k b u q
  slot := fun b u q _ _ _ => ⟨u.slots, k b u q⟩
  free := fun b u q n _ => by rw [upd_ne (Nat.ne_of_lt (Nat.lt_of_lt_of_le (Heap.lt_size q) hp))]; exact n
  there := fun b u q _ => ⟨u, k b u q⟩
  tups := fun b xs q => by rw [upd_ne (ne_of_none q hn)]; exact q
  frzs := fun b u xs q => by rw [upd_ne (ne_of_none q hn)]; exact q
  tbls := fun b ps q => ⟨#[], by rw [upd_ne (ne_of_none q hn), q]; simp⟩
theorem Un.write (mu : Mut (H x)) (he : e = x ∨ H e = some (.own x)) (k : ∀ b u, b ≠ e → h.get? b = some u → h'.get? b = some u) (heo : ∃ u, h'.get? e = some u) : Un fs ex H (upd H x o) h h' := by
  have hx : ∀ b, H b = none → b ≠ x := fun b n z => by subst z; rw [n] at mu; exact mu
  have hb : ∀ b, H b = none → b ≠ e := fun b n z => by
    subst z
    rcases he with r | r
    · exact hx b n r
    · rw [n] at r; cases r
  have hm : ∀ b u, H b = some u → ¬ Mut (some u) → b ≠ x := fun b u q nm z => by subst z; rw [q] at mu; exact nm mu
  refine ⟨fun b u q n _ _ => k b u (hb b n) q, fun b u q n _ _ => ⟨u.slots, k b u (hb b n) q⟩, fun b u q n _ => by rw [upd_ne (hx b n)]; exact n, fun b u q _ => ?_,
    fun b xs q => by rw [upd_ne (hm b _ q fun z => z)]; exact q, fun b u xs q => by rw [upd_ne (hm b _ q fun z => z)]; exact q, fun b ps q => ⟨#[], by rw [upd_ne (hm b _ q fun z => z), q]; simp⟩⟩
  by_cases hbe : b = e
  · subst hbe; exact heo
  · exact ⟨u, k b u hbe q⟩
end
/-! ### the heap without what is tracked -/
def trk (h : Heap) (H : Hp) : List Addr := (List.range h.objs.size).filter fun a => (H a).isSome
def hidT (h : Heap) (H : Hp) : Heap := PySem.W.hideAll h (trk h H)
theorem hidT_size (h : Heap) (H : Hp) : (hidT h H).objs.size = h.objs.size := PySem.W.hideAll_size _ _
theorem hidT_get {h : Heap} {H : Hp} {b : Addr} {o : Obj} (e : h.get? b = some o) (n : H b = none) : (hidT h H).get? b = some o :=
  PySem.W.hideAll_get _ e fun hm => by
    have q : (H b).isSome = true := (List.mem_filter.mp hm).2
    rw [n] at q; simp at q
theorem of_hidT {h : Heap} {H : Hp} {b : Addr} {o : Obj} (e : (hidT h H).get? b = some o) : h.get? b = some o ∧ H b = none := by
  have e' : h.get? b = some o := PySem.W.of_hideAll (trk h H) e
  refine ⟨e', ?_⟩
  cases q : H b with
  | none => rfl
  | some x =>
    have hm : b ∈ trk h H := List.mem_filter.mpr ⟨List.mem_range.mpr (Heap.lt_size e'), by simp [q]⟩
    have z : (hidT h H).get? b = none := PySem.W.hideAll_none (trk h H) hm
    rw [z] at e; cases e
/-! ### OpenK's ledger, filled with every new object but one -/
end L2
namespace L2
open PySem PySem.Spec PyProof.Rows
/-- the module's facts, over the base: the heap at the law's entry without what is tracked there -/
structure Mod (K : PySem.W.Frag) (mg : Str → Option Value) (base : Heap) : Prop where
  kin : K.In base
  glob : base.Ns mainGlobals mg
  blt : ∃ mb, base.Ns builtinsNs mb ∧ ∀ x : Str, x ≠ "__name__" → mb x = bootBuiltins x
  nolimit : base.NoLimit
/-- the context: a def's body (or a comprehension's block) running. base: fixed through the whole law; s₀, H₀: the entry; outer: the frames whose slots others may change (a def's callers); stack: all frames that run;
   ex: iterators that were made ahead of the entry and are walked here (a comprehension's); fn: the names whose cells were made at the entry (a def: all; a comprehension's block: its own); calm: not within an except suite; pn: pins that every state bears; xe: what is wanted of an exception that leaves the code -/
structure Cx where
  prog : Program
  w : World
  K : PySem.W.Frag
  mg : Str → Option Value
  base : Heap
  A : Around
  N : List Str
  s_0 : Shared
  H_0 : Hp
  env : Env
  outer : List Env
  stack : List Env
  ex : List Addr
  fn : Str → Bool
  calm : Bool
  pn : List (Addr × Obj)
  xe : Value → Shared → Prop
/-- the callers' frames -/
def frs (l : List Env) : List Addr := l.filterMap (·.frame)
abbrev Cx.fs (X : Cx) : List Addr := frs X.outer
def Vis (sc : Scope) (x : Str) : Prop := sc.names.lookup x = some .local ∨ sc.names.lookup x = some .cell ∨ sc.names.lookup x = some .free
def Loc (sc : Scope) (x : Str) : Prop := sc.names.lookup x = some .local ∨ sc.names.lookup x = some .cell
def Look (env : Env) (h : Heap) (m : Str → Option Value) (x : Str) (u : Value) : Prop :=
  (env.kindOf x = some .local ∧ m x = some u) ∨ ((env.kindOf x = some .cell ∨ env.kindOf x = some .free) ∧ ∃ c, env.cells.lookup x = some c ∧ h.IsCell c (some u))
structure Cx.Ok (X : Cx) : Prop where
  mod : Mod X.K X.mg X.base
  kind : X.env.scope.kind = .function
  glob : X.env.globals = mainGlobals
  blt : X.env.builtins = builtinsNs
  above : X.s_0.heap.objs.size ≤ X.env.locals
  inj : ∀ x y c, X.env.cells.lookup x = some c → X.env.cells.lookup y = some c → x = y
  has : ∀ x, (X.env.kindOf x = some .cell ∨ X.env.kindOf x = some .free) → ∃ c, X.env.cells.lookup x = some c
  cab : ∀ x c, X.fn x = true → X.env.cells.lookup x = some c → X.s_0.heap.objs.size ≤ c
  hd : X.calm = true → X.A.handled = none
  frames : X.A.frames = some X.stack
  stk : X.stack = X.outer ∨ (X.stack = X.env :: X.outer ∧ X.env.frame = some X.env.locals)
  exf : ∀ b ∈ X.ex, b ≠ X.env.locals ∧ ∀ x c, X.env.cells.lookup x = some c → c ≠ b
  bs : ∀ b o, X.base.get? b = some o → X.s_0.heap.get? b = some o ∧ X.H_0 b = none
  bsz : X.base.objs.size ≤ X.s_0.heap.objs.size
  noex : ∀ b o, X.base.get? b = some o → b ∉ X.ex
  exfs : ∀ b ∈ X.ex, b ∉ X.fs
  funs : X.s_0.heap.FunFrames X.base X.outer
  frf : ∀ b ∈ X.fs, X.H_0 b = none
structure Inv (X : Cx) (pins : List (Addr × Obj)) (σ : List (Option V)) (H : Hp) (s : Shared) : Prop where
  ok : X.Ok
  os : s.os = X.s_0.os
  bare : AllBare s.gens
  base : Un X.fs X.ex X.H_0 H X.s_0.heap s.heap
  loc : ∃ m, s.heap.Ns X.env.locals m ∧ ∀ (i : Nat) (x : Str) (v : V), X.N[i]? = some x → σ[i]? = some (some v) → Vis X.env.scope x → ∃ u, RelV v u ∧ Look X.env s.heap m x u
  cell : ∀ x c, X.env.cells.lookup x = some c → ∃ v, s.heap.IsCell c v
  free : H X.env.locals = none
  freeC : ∀ x c, X.env.cells.lookup x = some c → H c = none
  pin : ∀ p ∈ X.pn ++ pins, s.heap.get? p.1 = some p.2 ∧ H p.1 = none ∧ p.1 ≠ X.env.locals ∧ p.1 ∉ X.fs ∧ ∀ v, p.2.data ≠ .cell v
  hok : HOk X.prog X.w H s.heap
  len : σ.length = X.N.length
section
variable {X : Cx} {pins : List (Addr × Obj)} {σ : List (Option V)} {H H' : Hp} {s : Shared} {h' : Heap}
theorem Cx.Ok.nofr (ok : X.Ok) {b : Addr} {o : Obj} (e : X.base.get? b = some o) : b ∉ X.fs := fun hb => by
  have := (ok.funs.mem hb).1
  rw [e] at this; cases this
theorem Inv.bs (I : Inv X pins σ H s) : ∀ b o, X.base.get? b = some o → s.heap.get? b = some o ∧ H b = none := fun b o e =>
  ⟨I.base.keep b o (I.ok.bs b o e).1 (I.ok.bs b o e).2 (I.ok.nofr e) (I.ok.noex b o e), I.base.free b o (I.ok.bs b o e).1 (I.ok.bs b o e).2 (I.ok.noex b o e)⟩
theorem Inv.bk (I : Inv X pins σ H s) : ∀ b o, X.base.get? b = some o → s.heap.get? b = some o := fun b o e => (I.bs b o e).1
theorem Inv.mod (I : Inv X pins σ H s) : Mod X.K X.mg X.base := I.ok.mod
theorem Inv.kIn (I : Inv X pins σ H s) : X.K.In s.heap := I.ok.mod.kin.keeps I.bk
theorem Inv.lt (I : Inv X pins σ H s) : X.env.locals < s.heap.objs.size := let ⟨_, hn, _⟩ := I.loc; hn.lt
theorem Inv.sz (I : Inv X pins σ H s) : X.s_0.heap.objs.size ≤ s.heap.objs.size := Nat.le_trans I.ok.above (Nat.le_of_lt I.lt)
theorem Inv.nofs (I : Inv X pins σ H s) {a : Addr} (h : s.heap.objs.size ≤ a) : a ∉ X.fs := fun hb => by
  obtain ⟨_, o, ho, _⟩ := I.ok.funs.mem hb
  exact absurd (Nat.lt_of_lt_of_le (Heap.lt_size ho) (Nat.le_trans I.sz h)) (Nat.lt_irrefl _)
theorem Inv.cne (I : Inv X pins σ H s) : ∀ x c, X.env.cells.lookup x = some c → c ≠ X.env.locals := fun x c e z => by
  obtain ⟨v, o, ho, hd⟩ := I.cell x c e
  obtain ⟨m, ⟨o', es, ep, ho', hd', _⟩, _⟩ := I.loc
  rw [z, ho'] at ho; cases ho; rw [hd'] at hd; cases hd
theorem Inv.funs (I : Inv X pins σ H s) : s.heap.FunFrames X.base X.outer := by
  have all : ∀ (l : List Env), (∀ b ∈ frs l, b ∈ X.fs) → X.s_0.heap.FunFrames X.base l → s.heap.FunFrames X.base l := by
    intro l
    induction l with
    | nil => intro _ _; trivial
    | cons env r ih =>
      intro hs hl
      obtain ⟨hk, ⟨L, o, hf, hn, ho, hd⟩, hr⟩ := hl
      have hL : L ∈ X.fs := hs L (by unfold frs; rw [List.filterMap_cons, hf]; exact List.mem_cons_self)
      obtain ⟨sl, e⟩ := I.base.slot L o ho (I.ok.frf L hL) hL fun z => I.ok.exfs L z hL
      exact ⟨hk, ⟨L, _, hf, hn, e, hd⟩, ih (fun b hb => hs b (by unfold frs; rw [List.filterMap_cons, hf]; exact List.mem_cons_of_mem _ hb)) hr⟩
  exact all X.outer (fun _ hb => hb) I.ok.funs
/-- the frames that run, for a call -/
theorem Inv.stack (I : Inv X pins σ H s) : s.heap.FunFrames X.base X.stack := by
  rcases I.ok.stk with e | ⟨e, hf⟩
  · rw [e]; exact I.funs
  · rw [e]
    obtain ⟨m, hn, _⟩ := I.loc
    refine .cons (by rw [I.ok.kind]; decide) hf hn ?_ I.funs
    exact Heap.get?_none_of_le (Nat.le_trans I.ok.bsz I.ok.above)
theorem Inv.stkSub (I : Inv X pins σ H s) : ∀ b ∈ frs X.stack, b ∈ X.env.locals :: X.fs := fun b hb => by
  rcases I.ok.stk with e | ⟨e, hf⟩
  · rw [e] at hb; exact List.mem_cons_of_mem _ hb
  · rw [e] at hb
    unfold frs at hb
    rw [List.filterMap_cons, hf] at hb
    exact hb
theorem Inv.stkFree (I : Inv X pins σ H s) : ∀ b ∈ frs X.stack, H b = none := fun b hb => by
  rcases List.mem_cons.mp (I.stkSub b hb) with e | hb
  · rw [e]; exact I.free
  · obtain ⟨_, o, ho, _⟩ := I.ok.funs.mem hb
    exact I.base.free b o ho (I.ok.frf b hb) fun z => I.ok.exfs b z hb
/-- THE STEP: the untracked objects but the frame and the records at ch are kept (the callers' frames up to slots), the frame's map is kept, the new abstract heap is held -/
theorem Inv.step {g' : Array GenState} {t' : Nat} {d' : Drawn} {ch : List Addr} (I : Inv X pins σ H s)
    (hch : ∀ b ∈ ch, (b ∈ X.ex ∨ X.s_0.heap.objs.size ≤ b) ∧ b ≠ X.env.locals ∧ (∀ x c, X.env.cells.lookup x = some c → c ≠ b) ∧ ∀ p ∈ X.pn ++ pins, p.1 ≠ b)
    (keep : ∀ b o, b ≠ X.env.locals → b ∉ X.fs → b ∉ ch → s.heap.get? b = some o → H b = none → h'.get? b = some o)
    (slot : ∀ b o, b ≠ X.env.locals → b ∈ X.fs → b ∉ ch → s.heap.get? b = some o → H b = none → ∃ sl, h'.get? b = some { o with slots := sl }) (free : ∀ b o, b ∉ ch → s.heap.get? b = some o → H b = none → H' b = none)
    (there : ∀ b o, b ∉ ch → s.heap.get? b = some o → ∃ o', h'.get? b = some o')
    (tups : ∀ b xs, H b = some (.tup xs) → H' b = some (.tup xs)) (frzs : ∀ b o u, H b = some (.frz o u) → H' b = some (.frz o u)) (tbls : ∀ b ps, H b = some (.tbl ps) → ∃ more, H' b = some (.tbl (ps ++ more)))
    (ns : ∀ m, s.heap.Ns X.env.locals m → h'.Ns X.env.locals m) (hok : HOk X.prog X.w H' h') (hg : AllBare g') :
    Inv X pins σ H' { s with heap := h', gens := g', drawn := d', toks := t' } := by
  have neL : ∀ b o, X.s_0.heap.get? b = some o → b ≠ X.env.locals := fun b o e => Nat.ne_of_lt (Nat.lt_of_lt_of_le (Heap.lt_size e) I.ok.above)
  have neC : ∀ b o, X.s_0.heap.get? b = some o → b ∉ X.ex → b ∉ ch := fun b o e hx hb => by
    rcases (hch b hb).1 with z | z
    · exact hx z
    · exact absurd (Nat.lt_of_lt_of_le (Heap.lt_size e) z) (Nat.lt_irrefl _)
  have cellK : ∀ x c, X.env.cells.lookup x = some c → ∀ v, s.heap.IsCell c v → h'.IsCell c v := fun x c e v ⟨o, ho, hd⟩ => by
    have nch : c ∉ ch := fun z => (hch c z).2.2.1 x c e rfl
    by_cases hc : c ∈ X.fs
    · obtain ⟨sl, q⟩ := slot c o (I.cne x c e) hc nch ho (I.freeC x c e)
      exact ⟨_, q, hd⟩
    · exact ⟨o, keep c o (I.cne x c e) hc nch ho (I.freeC x c e), hd⟩
  refine ⟨I.ok, I.os, hg, ⟨fun b o e n hb hx => ?_, fun b o e n hb hx => ?_, fun b o e n hx => ?_, fun b o e hx => ?_, fun b xs e => tups b xs (I.base.tups b xs e), fun b o xs e => frzs b o xs (I.base.frzs b o xs e), fun b ps e => ?_⟩, ?_, fun x c e => ?_, ?_, fun x c e => ?_, fun p hp => ?_, hok, I.len⟩
  · exact keep b o (neL b o e) hb (neC b o e hx) (I.base.keep b o e n hb hx) (I.base.free b o e n hx)
  · obtain ⟨sl, e1⟩ := I.base.slot b o e n hb hx
    obtain ⟨sl', e2⟩ := slot b _ (neL b o e) hb (neC b o e hx) e1 (I.base.free b o e n hx)
    exact ⟨sl', e2⟩
  · obtain ⟨o', e1⟩ := I.base.there b o e hx
    exact free b o' (neC b o e hx) e1 (I.base.free b o e n hx)
  · obtain ⟨o', e1⟩ := I.base.there b o e hx
    exact there b o' (neC b o e hx) e1
  · obtain ⟨m1, e1⟩ := I.base.tbls b ps e
    obtain ⟨m2, e2⟩ := tbls b _ e1
    exact ⟨m1 ++ m2, by rw [e2, Array.append_assoc]⟩
  · obtain ⟨m, hn, hl⟩ := I.loc
    refine ⟨m, ns m hn, fun i x v e1 e2 e3 => ?_⟩
    obtain ⟨u, r, l⟩ := hl i x v e1 e2 e3
    refine ⟨u, r, ?_⟩
    rcases l with l | ⟨k, c, e, z⟩
    · exact .inl l
    · exact .inr ⟨k, c, e, cellK x c e _ z⟩
  · obtain ⟨v, z⟩ := I.cell x c e
    exact ⟨v, cellK x c e v z⟩
  · obtain ⟨m, ⟨o, _, _, ho, _⟩, _⟩ := I.loc
    exact free _ o (fun z => (hch _ z).2.1 rfl) ho I.free
  · obtain ⟨v, o, ho, hd⟩ := I.cell x c e
    exact free c o (fun z => (hch c z).2.2.1 x c e rfl) ho (I.freeC x c e)
  · obtain ⟨e, n, ne, nf, d⟩ := I.pin p hp
    have nch : p.1 ∉ ch := fun z => (hch p.1 z).2.2.2 p hp rfl
    exact ⟨keep p.1 p.2 ne nf nch e n, free p.1 p.2 nch e n, ne, nf, d⟩
/-- .. where the frame's own object is kept too -/
theorem Inv.un {t' : Nat} (I : Inv X pins σ H s) (u : Un X.fs [] H H' s.heap h') (hok : HOk X.prog X.w H' h') : Inv X pins σ H' { s with heap := h', toks := t' } := by
  obtain ⟨m, ⟨o, es, ep, ho, r⟩, _⟩ := id I.loc
  obtain ⟨sl, hL⟩ := u.any ho I.free (by simp)
  exact I.step (g' := s.gens) (d' := s.drawn) (ch := []) (fun _ z => nomatch z) (fun b o _ hb _ e n => u.keep b o e n hb (by simp)) (fun b o _ hb _ e n => u.slot b o e n hb (by simp)) (fun b o _ e n => u.free b o e n (by simp)) (fun b o _ e => u.there b o e (by simp)) u.tups u.frzs u.tbls (fun m' hm => by
    obtain ⟨o', es', ep', ho', r'⟩ := hm
    rw [ho] at ho'; cases ho'
    exact ⟨_, es', ep', hL, r'⟩) hok I.bare
/-- behind a call (or a comprehension's block): the slots of this frame may have changed too, the records at ch may have turned -/
theorem Inv.call {g' : Array GenState} {t' : Nat} {d' : Drawn} {ch : List Addr} (I : Inv X pins σ H s) (u : Un (frs X.stack) ch H H' s.heap h') (hok : HOk X.prog X.w H' h') (hg : AllBare g')
    (hch : ∀ b ∈ ch, (b ∈ X.ex ∨ X.s_0.heap.objs.size ≤ b) ∧ b ≠ X.env.locals ∧ (∀ x c, X.env.cells.lookup x = some c → c ≠ b) ∧ ∀ p ∈ X.pn ++ pins, p.1 ≠ b) :
    Inv X pins σ H' { s with heap := h', gens := g', drawn := d', toks := t' } := by
  obtain ⟨m, ⟨o, es, ep, ho, r⟩, _⟩ := id I.loc
  obtain ⟨sl, hL⟩ := u.any ho I.free fun z => (hch _ z).2.1 rfl
  exact I.step (ch := ch) hch (fun b o hL hb hc e n => u.keep b o e n (fun z => (List.mem_cons.mp (I.stkSub b z)).elim hL hb) hc) (fun b o _ _ hc e n => u.any e n hc) (fun b o hc e n => u.free b o e n hc) (fun b o hc e => u.there b o e hc) u.tups u.frzs u.tbls (fun m' hm => by
    obtain ⟨o', es', ep', ho', r'⟩ := hm
    rw [ho] at ho'; cases ho'
    exact ⟨_, es', ep', hL, r'⟩) hok hg
/-- an untracked record of ours (an iterator) has turned -/
theorem Inv.turned {t' : Nat} {it : Addr} (I : Inv X pins σ H s) (k : ∀ b o, b ≠ it → s.heap.get? b = some o → h'.get? b = some o) (hn : H it = none) (hL : it ≠ X.env.locals)
    (h1 : it ∈ X.ex ∨ X.s_0.heap.objs.size ≤ it) (h2 : ∀ x c, X.env.cells.lookup x = some c → c ≠ it) (h3 : ∀ p ∈ X.pn ++ pins, p.1 ≠ it) : Inv X pins σ H { s with heap := h', toks := t' } := by
  have nit : ∀ b u, H b = some u → b ≠ it := fun b u e z => by rw [z, hn] at e; cases e
  refine I.step (g' := s.gens) (d' := s.drawn) (ch := [it]) (fun b hb => ?_) (fun b o _ _ hc e _ => k b o (fun z => hc (by simp [z])) e) (fun b o _ _ hc e _ => ⟨o.slots, k b o (fun z => hc (by simp [z])) e⟩) (fun _ _ _ _ n => n)
    (fun b o hc e => ⟨o, k b o (fun z => hc (by simp [z])) e⟩) (fun _ _ e => e) (fun _ _ _ e => e) (fun b ps e => ⟨#[], by rw [e]; simp⟩) (fun m hm => ?_) (fun b u e => ?_) I.bare
  · have e : b = it := by simpa using hb
    subst e
    exact ⟨h1, hL, h2, h3⟩
  · obtain ⟨o, es, ep, ho, r⟩ := hm
    exact ⟨o, es, ep, k _ o (Ne.symm hL) ho, r⟩
  · refine (I.hok b u e).stay (fun c v hc q => k c v ?_ q) (fun _ q => q) fun _ _ q => q
    rcases hc with z | z
    · rw [z]; exact nit b u e
    · exact nit c _ z
theorem Inv.tok (I : Inv X pins σ H s) (t : Nat) : Inv X pins σ H { s with toks := t } := I.un (h' := s.heap) (t' := t) Un.refl I.hok
/-- all objects kept -/
theorem Inv.kept {t' : Nat} (I : Inv X pins σ H s) (k : ∀ b u, s.heap.get? b = some u → h'.get? b = some u) : Inv X pins σ H { s with heap := h', toks := t' } := I.un (Un.kept k) (I.hok.kept k)
/-- a new object laid and tracked -/
theorem Inv.laid {a : Addr} {o : HO} {t' : Nat} (I : Inv X pins σ H s) (k : ∀ b u, s.heap.get? b = some u → h'.get? b = some u) (hp : s.heap.objs.size ≤ a) (new : ObjOk X.prog X.w (upd H a o) h' a o) :
    Inv X pins σ (upd H a o) { s with heap := h', toks := t' } := I.un (Un.laid k hp (I.hok.fresh hp)) (I.hok.laid k hp new)
/-- an object written -/
theorem Inv.write {x e : Addr} {o : HO} {t' : Nat} (I : Inv X pins σ H s) (mu : Mut (H x)) (he : e = x ∨ H e = some (.own x)) (k : ∀ b u, b ≠ e → s.heap.get? b = some u → h'.get? b = some u) (heo : ∃ u, h'.get? e = some u)
    (new : ObjOk X.prog X.w (upd H x o) h' x o) : Inv X pins σ (upd H x o) { s with heap := h', toks := t' } := I.un (Un.write mu he k heo) (I.hok.write mu he k heo new)
/-- forgetting slots, pins -/
theorem Inv.weak {σ' : List (Option V)} (I : Inv X pins σ H s) (hl : σ'.length = σ.length) (w : ∀ (i : Nat) v, σ'[i]? = some (some v) → σ[i]? = some (some v)) : Inv X pins σ' H s :=
  ⟨I.ok, I.os, I.bare, I.base, let ⟨m, hn, hl'⟩ := I.loc; ⟨m, hn, fun i x v e1 e2 e3 => hl' i x v e1 (w i v e2) e3⟩, I.cell, I.free, I.freeC, I.pin, I.hok, hl.trans I.len⟩
theorem Inv.pins_of {pins' : List (Addr × Obj)} (I : Inv X pins σ H s) (h : ∀ p ∈ pins', s.heap.get? p.1 = some p.2 ∧ H p.1 = none ∧ p.1 ≠ X.env.locals ∧ p.1 ∉ X.fs ∧ ∀ v, p.2.data ≠ .cell v) : Inv X pins' σ H s :=
  ⟨I.ok, I.os, I.bare, I.base, I.loc, I.cell, I.free, I.freeC, fun p hp => (List.mem_append.mp hp).elim (fun z => I.pin p (List.mem_append_left _ z)) (h p), I.hok, I.len⟩
theorem nodup_ix {N : List Str} (hN : N.Nodup) {i j : Nat} {x : Str} (a : N[i]? = some x) (b : N[j]? = some x) : i = j := by
  obtain ⟨h1, e1⟩ := List.getElem?_eq_some_iff.mp a
  obtain ⟨h2, e2⟩ := List.getElem?_eq_some_iff.mp b
  exact (List.getElem_inj hN).mp (e1.trans e2.symm)
/-- a name is stored; what changed -/
theorem store_ok2 {M : Model} {A : Around} {E : Value → Shared → Prop} {i : Nat} {x : Str} {v : V} {u : Value} {Q : Unit → Shared → Prop} (I : Inv X pins σ H s) (hN : X.N.Nodup) (hi : X.N[i]? = some x) (hx : Loc X.env.scope x) (r : RelV v u)
    (h : ∀ s', Inv X pins (σ.set i (some v)) H s' → (∃ a, Heap.SameBut a s.heap s'.heap ∧ (a = X.env.locals ∨ X.env.cells.lookup x = some a)) → Q () s') (hf : X.fn x = true ∨ X.env.scope.names.lookup x = some .local := by first | exact .inl rfl | exact .inr rfl | assumption) : wpAny M A (storeName X.env x u) Q E s := by
  obtain ⟨m, hn, hl⟩ := id I.loc
  have hcls : (X.env.scope.kind == .class || (X.env.scope.kind == .module && X.env.locals != X.env.globals)) = false := by rw [I.ok.kind]; rfl
  have hiσ : i < σ.length := by rw [I.len]; exact (List.getElem?_eq_some_iff.mp hi).1
  have cne := I.cne
  have tracked : ∀ {a : Addr} {h' : Heap}, (∃ o, s.heap.get? a = some o ∧ H a = none) → Heap.SameBut a s.heap h' → HOk X.prog X.w H h' := fun {a h'} ha hs b ob e => by
    obtain ⟨_, _, hfree⟩ := ha
    refine (I.hok b ob e).stay (fun c w' hc q => (hs.2 c ?_).trans q) (fun _ q => q) fun _ _ q => q
    rintro rfl
    rcases hc with rfl | hc
    · rw [hfree] at e; cases e
    · rw [hfree] at hc; cases hc
  rcases hx with hk | hk
  · refine wpAny_storeName_local hk hn (fun h' hn' hs => ?_) hcls
    obtain ⟨oL, _, _, hoL, _⟩ := id hn
    refine h _ ⟨I.ok, I.os, I.bare, ⟨fun b o e n hb hx => ?_, fun b o e n hb hx => ?_, I.base.free, fun b o e hx => ?_, I.base.tups, I.base.frzs, I.base.tbls⟩, ⟨_, hn', fun j y v' e1 e2 e3 => ?_⟩, fun y c e => ?_, I.free, I.freeC, fun p hp => ?_, tracked ⟨oL, hoL, I.free⟩ hs, by simpa using I.len⟩ ⟨_, hs, .inl rfl⟩
    · exact (hs.2 b (Nat.ne_of_lt (Nat.lt_of_lt_of_le (Heap.lt_size e) I.ok.above))).trans (I.base.keep b o e n hb hx)
    · obtain ⟨sl, e1⟩ := I.base.slot b o e n hb hx
      exact ⟨sl, (hs.2 b (Nat.ne_of_lt (Nat.lt_of_lt_of_le (Heap.lt_size e) I.ok.above))).trans e1⟩
    · obtain ⟨o', e1⟩ := I.base.there b o e hx
      exact ⟨o', (hs.2 b (Nat.ne_of_lt (Nat.lt_of_lt_of_le (Heap.lt_size e) I.ok.above))).trans e1⟩
    · by_cases hj : j = i
      · subst hj
        rw [hi] at e1; cases e1
        rw [List.getElem?_set_self hiσ] at e2
        cases e2
        exact ⟨u, r, .inl ⟨hk, by simp⟩⟩
      · rw [List.getElem?_set_ne (Ne.symm hj)] at e2
        obtain ⟨u', r', q⟩ := hl j y v' e1 e2 e3
        refine ⟨u', r', ?_⟩
        rcases q with ⟨k, e⟩ | ⟨k, c, e, z⟩
        · refine .inl ⟨k, ?_⟩
          have : y ≠ x := fun e => hj (nodup_ix hN e1 (e ▸ hi))
          simp [this, e]
        · exact .inr ⟨k, c, e, z.sameBut hs (cne y c e)⟩
    · obtain ⟨w', z⟩ := I.cell y c e
      exact ⟨w', z.sameBut hs (cne y c e)⟩
    · obtain ⟨e, n, ne, nf, d⟩ := I.pin p hp
      exact ⟨(hs.2 p.1 ne).trans e, n, ne, nf, d⟩
  · have hfn : X.fn x = true := by
      rcases hf with z | z
      · exact z
      · rw [z] at hk; cases hk
    obtain ⟨c, hc⟩ := I.ok.has x (.inl hk)
    obtain ⟨w', z⟩ := I.cell x c hc
    refine wpAny_storeName_cell I.ok.kind hk hc z (fun h' hc' hs => ?_)
    obtain ⟨oc, hoc, hocd⟩ := id z
    refine h { s with heap := h' } ⟨I.ok, I.os, I.bare, ⟨fun b o e n hb hx => ?_, fun b o e n hb hx => ?_, I.base.free, fun b o e hx => ?_, I.base.tups, I.base.frzs, I.base.tbls⟩, ⟨m, hn.sameBut hs (Ne.symm (cne x c hc)), fun j y v' e1 e2 e3 => ?_⟩, fun y c' e => ?_, I.free, I.freeC, fun p hp => ?_, tracked ⟨oc, hoc, I.freeC x c hc⟩ hs, by simpa using I.len⟩ ⟨c, hs, .inr hc⟩
    · exact (hs.2 b (Nat.ne_of_lt (Nat.lt_of_lt_of_le (Heap.lt_size e) (I.ok.cab x c hfn hc)))).trans (I.base.keep b o e n hb hx)
    · obtain ⟨sl, e1⟩ := I.base.slot b o e n hb hx
      exact ⟨sl, (hs.2 b (Nat.ne_of_lt (Nat.lt_of_lt_of_le (Heap.lt_size e) (I.ok.cab x c hfn hc)))).trans e1⟩
    · obtain ⟨o', e1⟩ := I.base.there b o e hx
      exact ⟨o', (hs.2 b (Nat.ne_of_lt (Nat.lt_of_lt_of_le (Heap.lt_size e) (I.ok.cab x c hfn hc)))).trans e1⟩
    · by_cases hj : j = i
      · subst hj
        rw [hi] at e1; cases e1
        rw [List.getElem?_set_self hiσ] at e2
        cases e2
        exact ⟨u, r, .inr ⟨.inl hk, c, hc, hc'⟩⟩
      · rw [List.getElem?_set_ne (Ne.symm hj)] at e2
        obtain ⟨u', r', q⟩ := hl j y v' e1 e2 e3
        refine ⟨u', r', ?_⟩
        rcases q with q | ⟨k, c', e, z'⟩
        · exact .inl q
        · refine .inr ⟨k, c', e, z'.sameBut hs ?_⟩
          rintro rfl
          exact hj (nodup_ix hN e1 (I.ok.inj _ _ _ e hc ▸ hi))
    · by_cases hcc : c' = c
      · subst hcc; exact ⟨_, hc'⟩
      · obtain ⟨w2, z2⟩ := I.cell y c' e
        exact ⟨w2, z2.sameBut hs hcc⟩
    · obtain ⟨e, n, ne, nf, d⟩ := I.pin p hp
      refine ⟨(hs.2 p.1 ?_).trans e, n, ne, nf, d⟩
      intro q
      rw [q, hoc] at e
      have q' : oc = p.2 := Option.some.inj e
      exact d w' (by rw [← q']; exact hocd)
theorem store_ok {M : Model} {A : Around} {E : Value → Shared → Prop} {i : Nat} {x : Str} {v : V} {u : Value} {Q : Unit → Shared → Prop} (I : Inv X pins σ H s) (hN : X.N.Nodup) (hi : X.N[i]? = some x) (hx : Loc X.env.scope x) (r : RelV v u)
    (h : ∀ s', Inv X pins (σ.set i (some v)) H s' → Q () s') (hf : X.fn x = true ∨ X.env.scope.names.lookup x = some .local := by first | exact .inl rfl | exact .inr rfl | assumption) : wpAny M A (storeName X.env x u) Q E s :=
  store_ok2 I hN hi hx r (fun s' I' _ => h s' I') hf
/-- behind a call or a block, the state as it is -/
theorem Inv.call' {s' : Shared} {ch : List Addr} (I : Inv X pins σ H s) (ho : s'.os = s.os) (u : Un (frs X.stack) ch H H' s.heap s'.heap) (hok : HOk X.prog X.w H' s'.heap) (hg : AllBare s'.gens)
    (hch : ∀ b ∈ ch, (b ∈ X.ex ∨ X.s_0.heap.objs.size ≤ b) ∧ b ≠ X.env.locals ∧ (∀ x c, X.env.cells.lookup x = some c → c ≠ b) ∧ ∀ p ∈ X.pn ++ pins, p.1 ≠ b) : Inv X pins σ H' s' := by
  obtain ⟨h', g', d', t', o'⟩ := s'
  have e : o' = s.os := ho
  subst e
  exact I.call (g' := g') (t' := t') (d' := d') u hok hg hch
end
/-! ### the judgements -/
/-- an exception: its class, its own dict's address (where it has one), the abstract heap behind it -/
abbrev XK := Value → Option Addr → Hp → Prop
abbrev St := List (Option V)
abbrev VK := V → Hp → Prop
/-- an expression's reading; a test's; an argument list's -/
abbrev TE := St → Hp → VK → Prop
abbrev TT := St → Hp → (Bool → Hp → Prop) → Prop
abbrev TA := St → Hp → (List V → Hp → Prop) → Prop
/-- what is wanted behind a statement -/
structure Ends where
  nx : St → Hp → Prop
  rt : VK
  bk : St → Hp → Prop := fun _ _ => False
  ct : St → Hp → Prop := fun _ _ => False
abbrev TS := Ends → St → Hp → Prop
def EP (X : Cx) (pins : List (Addr × Obj)) (σ : St) (Q : VK) (u : Value) (s' : Shared) : Prop := ∃ v H', Inv X pins σ H' s' ∧ RelV v u ∧ Q v H'
def TP (X : Cx) (pins : List (Addr × Obj)) (σ : St) (Q : Bool → Hp → Prop) (b : Bool) (s' : Shared) : Prop := ∃ H', Inv X pins σ H' s' ∧ Q b H'
def AP (X : Cx) (pins : List (Addr × Obj)) (σ : St) (Q : List V → Hp → Prop) (us : List Value) (s' : Shared) : Prop := ∃ vs H', Inv X pins σ H' s' ∧ Vals vs us ∧ Q vs H'
def SP (X : Cx) (pins : List (Addr × Obj)) (D : Ends) (f : Flow) (s' : Shared) : Prop :=
  match f with
  | .next => ∃ σ' H', Inv X pins σ' H' s' ∧ D.nx σ' H'
  | .brk => ∃ σ' H', Inv X pins σ' H' s' ∧ D.bk σ' H'
  | .cont => ∃ σ' H', Inv X pins σ' H' s' ∧ D.ct σ' H'
  | .ret u => ∃ v σ' H', Inv X pins σ' H' s' ∧ RelV v u ∧ D.rt v H'
def PE (X : Cx) (e : Expr) (t : TE) : Prop :=
  ∀ (pins : List (Addr × Obj)) (s : Shared) (σ : St) (H : Hp) (Q : VK), Inv X pins σ H s → t σ H Q → wpAny (model X.prog X.w) X.A (eval e X.env) (EP X pins σ Q) X.xe s
def PT (X : Cx) (e : Expr) (t : TT) : Prop :=
  ∀ (pins : List (Addr × Obj)) (s : Shared) (σ : St) (H : Hp) (Q : Bool → Hp → Prop), Inv X pins σ H s → t σ H Q → wpAny (model X.prog X.w) X.A (isTrue e X.env (eval e X.env)) (TP X pins σ Q) X.xe s
/-- a test whatever its 'whole' is (and, or) -/
def PW (X : Cx) (e : Expr) (t : TT) : Prop :=
  ∀ (whole : Sem Value) (pins : List (Addr × Obj)) (s : Shared) (σ : St) (H : Hp) (Q : Bool → Hp → Prop), Inv X pins σ H s → t σ H Q → wpAny (model X.prog X.w) X.A (isTrue e X.env whole) (TP X pins σ Q) X.xe s
theorem PW.pt {X : Cx} {e : Expr} {t : TT} (h : PW X e t) : PT X e t := h _
/-- an argument list (no star), from the left -/
def PA (X : Cx) (es : List Expr) (t : TA) : Prop :=
  ∀ (pos : Pos) (pins : List (Addr × Obj)) (s : Shared) (σ : St) (H : Hp) (Q : List V → Hp → Prop), Inv X pins σ H s → t σ H Q → wpAny (model X.prog X.w) X.A (spliced (backTo pos (starEach es X.env))) (AP X pins σ Q) X.xe s
def PS (X : Cx) (st : Stmt) (t : TS) : Prop :=
  ∀ (pins : List (Addr × Obj)) (s : Shared) (σ : St) (H : Hp) (D : Ends), Inv X pins σ H s → t D σ H → wpAny (model X.prog X.w) X.A (exec st X.env) (SP X pins D) X.xe s
def PSs (X : Cx) (st : List Stmt) (t : TS) : Prop :=
  ∀ (pins : List (Addr × Obj)) (s : Shared) (σ : St) (H : Hp) (D : Ends), Inv X pins σ H s → t D σ H → wpAny (model X.prog X.w) X.A (execs st X.env) (SP X pins D) X.xe s
/-- weaken the end -/
theorem thn {α : Type} {t : Sem α} {Q Q' : α → Shared → Prop} {M : Model} {A : Around} {E : Value → Shared → Prop} {s : Shared} (h : wpAny M A t Q E s) (hQ : ∀ a s, Q a s → Q' a s) : wpAny M A t Q' E s := wpAny_mono h hQ fun _ _ x => x
end L2
namespace L2
open PySem PySem.Spec PyProof.Rows
section
variable {X : Cx}
/-! ### names and constants -/
def tVar (i : Nat) : TE := fun σ H Q => ∃ v, σ[i]? = some (some v) ∧ Q v H
def tC (v : V) : TE := fun _ H Q => Q v H
theorem pe_var {i : Nat} {x : Str} {pos : Pos} (hN : X.N[i]? = some x) (hv : Vis X.env.scope x) (hd : (x == ("__debug__" : Str)) = false := by decide) (hcd : (x == ("__classdict__" : Str)) = false := by decide) : PE X (.Name x pos) (tVar i) := by
  intro pins s σ H Q I h
  obtain ⟨v, e, h⟩ := h
  obtain ⟨m, hn, hl⟩ := I.loc
  obtain ⟨u, r, l⟩ := hl i x v hN e hv
  have fin : EP X pins σ Q u s := ⟨v, H, I, r, h⟩
  rcases l with ⟨hk, hm⟩ | ⟨hk, c, hc, hcell⟩
  · exact wpAny_Name (wpAny_loadName_local I.ok.kind hk hn hm fin) hd
  · rcases hk with hk | hk
    · exact wpAny_Name (wpAny_loadName_cell I.ok.kind hk hc hcell fin) hd
    · exact wpAny_Name (wpAny_loadName_free I.ok.kind hk hc hcell fin hcd) hd
theorem pe_int {i j pos} : PE X (.Constant (.int i) j pos) (tC (.int i)) := fun _ _ _ H _ I h => wpAny_Constant_int ⟨.int i, H, I.tok _, ⟨_, rfl⟩, h⟩
theorem pe_bl {b j pos} : PE X (.Constant (.bool b) j pos) (tC (.bl b)) := fun _ _ _ H _ I h => Constant_bool ⟨.bl b, H, I, rfl, h⟩
theorem pe_non {j pos} : PE X (.Constant .none j pos) (tC .non) := fun _ _ _ H _ I h => Constant_none ⟨.non, H, I, rfl, h⟩
/-- a global name of the def -/
def Gl (X : Cx) (x : Str) : Prop := X.env.kindOf x = some .globalImplicit
theorem ld_glob {E : Value → Shared → Prop} {pins : List (Addr × Obj)} {s : Shared} {σ : St} {H : Hp} {x : Str} {u : Value} {pos : Pos} {Q : Value → Shared → Prop} (I : Inv X pins σ H s) (hg : Gl X x) (hm : X.mg x = some u) (h : Q u s)
    (hd : (x == ("__debug__" : Str)) = false := by decide) : wpAny (model X.prog X.w) X.A (eval (.Name x pos) X.env) Q E s :=
  Calls.Name_function_global I.ok.kind hg (Calls.loadGlobal_global (by rw [I.ok.glob]; exact I.mod.glob.keeps I.bk) hm h) hd
theorem ld_blt {E : Value → Shared → Prop} {pins : List (Addr × Obj)} {s : Shared} {σ : St} {H : Hp} {x : Str} {u : Value} {pos : Pos} {Q : Value → Shared → Prop} (I : Inv X pins σ H s) (hg : Gl X x) (hm : X.mg x = none) (hv : bootBuiltins x = some u) (h : Q u s)
    (hn : x ≠ "__name__" := by decide) (hd : (x == ("__debug__" : Str)) = false := by decide) : wpAny (model X.prog X.w) X.A (eval (.Name x pos) X.env) Q E s := by
  obtain ⟨mb, h1, h2⟩ := I.mod.blt
  exact Calls.Name_function_global I.ok.kind hg (Calls.loadGlobal_builtin (by rw [I.ok.glob]; exact I.mod.glob.keeps I.bk) hm (by rw [I.ok.blt]; exact h1.keeps I.bk) ((h2 x hn).trans hv) h) hd
/-- a module's constant, a class, a function, as a value -/
theorem pe_glob {x : Str} {v : V} {u : Value} {pos : Pos} (hg : Gl X x) (hm : X.mg x = some u) (r : RelV v u) (hd : (x == ("__debug__" : Str)) = false := by decide) : PE X (.Name x pos) (tC v) :=
  fun _ _ _ H _ I h => ld_glob I hg hm ⟨v, H, I, r, h⟩ hd
/-! ### arithmetic -/
variable {a b : Expr} {ta tb : TE} {pos : Pos}
/-! ### comparisons -/
def PC (X : Cx) (op : CmpOp) (a b : Expr) (t : TE) : Prop :=
  ∀ (pins : List (Addr × Obj)) (s : Shared) (σ : St) (H : Hp) (Q : VK), Inv X pins σ H s → t σ H Q →
    wpAny (model X.prog X.w) X.A (eval a X.env) (fun v s₁ => wpAny (model X.prog X.w) X.A (eval b X.env) (fun u s₂ => wpAny (model X.prog X.w) X.A (compareOp op v u) (EP X pins σ Q) X.xe s₂) X.xe s₁) X.xe s
theorem nobehind (b : Expr) {op : CmpOp} (h : op ≠ .In) (h2 : op ≠ .NotIn) : behindInMarks op b = false := by
  have e1 : (op == CmpOp.In) = false := by cases op <;> first | rfl | exact absurd rfl h
  have e2 : (op == CmpOp.NotIn) = false := by cases op <;> first | rfl | exact absurd rfl h2
  cases b <;> simp [behindInMarks, e1, e2]
/-- is None -/
def tIsN (ta : TE) : TE := fun σ H Q => ta σ H fun x H1 => Q (.bl (decide (x = .non))) H1
def tNotN (ta : TE) : TE := fun σ H Q => ta σ H fun x H1 => Q (.bl (!decide (x = .non))) H1
theorem RelV.none_iff {x : V} {v : Value} (r : RelV x v) : (v == Value.none) = decide (x = .non) := by
  cases x with
  | non => cases r; rfl
  | bl _ => cases r; rfl
  | int _ => obtain ⟨t, rfl⟩ := r; rfl
  | str _ => obtain ⟨t, rfl⟩ := r; rfl
  | byt _ => obtain ⟨t, rfl⟩ := r; rfl
  | flt _ => obtain ⟨t, rfl⟩ := r; rfl
  | ref _ => cases r; rfl
  | ty _ => cases r; rfl
theorem pc_isN {j pos'} (ha : PE X a ta) : PC X .Is a (.Constant .none j pos') (tIsN ta) := by
  intro pins s σ H Q I h
  refine thn (ha pins s σ H _ I h) fun v s1 ⟨x, H1, I1, r1, q1⟩ => ?_
  exact Constant_none (is_none_gen ⟨.bl _, H1, I1, by rw [r1.none_iff]; rfl, q1⟩)
theorem pc_notN {j pos'} (ha : PE X a ta) : PC X .IsNot a (.Constant .none j pos') (tNotN ta) := by
  intro pins s σ H Q I h
  refine thn (ha pins s σ H _ I h) fun v s1 ⟨x, H1, I1, r1, q1⟩ => ?_
  exact Constant_none (isnot_none_gen ⟨.bl _, H1, I1, by rw [r1.none_iff]; rfl, q1⟩)
/-- a comparison as a value, as a test -/
def tB (t : TE) : TT := fun σ H Q => t σ H fun x H1 => ∃ c, x = .bl c ∧ Q c H1
theorem pe_cmp {op : CmpOp} {t : TE} (h : PC X op a b t) (h1 : behindInMarks op b = false := by first | exact nobehind _ (by decide) (by decide) | rfl) : PE X (.Compare a [op] [b] pos) t := fun pins s σ H Q I hw => wpAny_Compare1 (h pins s σ H Q I hw) h1
theorem pt_cmp {op : CmpOp} {t : TE} (h : PC X op a b t) (h1 : behindInMarks op b = false := by first | exact nobehind _ (by decide) (by decide) | rfl) : PT X (.Compare a [op] [b] pos) (tB t) := by
  intro pins s σ H Q I hw
  refine wpAny_isTrue_Compare1 (thn (h pins s σ H _ I hw) fun v s1 h1 => thn h1 fun u s2 h2 => thn h2 fun c s3 ⟨x, H1, I1, r1, q1⟩ => ?_) h1
  obtain ⟨d, rfl, q⟩ := q1
  cases r1
  exact wpAny_truthy_bool ⟨H1, I1, q⟩
/-- an expression whose value is a bool, as a test -/
theorem pt_val {e : Expr} {t : TE} (h : PE X e t) (he : ∀ whole, isTrue e X.env whole = (do let v ← whole; standAt e.pos; holding [v] (truthy v)) := by intro _; rfl) : PT X e (tB t) := by
  intro pins s σ H Q I hw
  refine isTrue_plain (thn (h pins s σ H _ I hw) fun v s1 ⟨x, H1, I1, r1, q1⟩ => ?_) (he _)
  obtain ⟨d, rfl, q⟩ := q1
  cases r1
  exact wpAny_truthy_bool ⟨H1, I1, q⟩
/-! ### and, or, not -/
variable {tA tB' : TT} {rest : List Expr}
def tAnd (t u : TT) : TT := fun σ H Q => t σ H fun c H1 => if c = true then u σ H1 Q else Q false H1
def tOr (t u : TT) : TT := fun σ H Q => t σ H fun c H1 => if c = true then Q true H1 else u σ H1 Q
def tNot (t : TT) : TT := fun σ H Q => t σ H fun c H1 => Q (!c) H1
theorem pw_and1 (ha : PT X a tA) : PW X (.BoolOp .And [a] pos) tA := by
  intro wh pins s σ H Q I h
  refine isTrue_and (thn (ha pins s σ H Q I h) fun c s1 e => ?_)
  cases c with
  | true => exact isTrue_and_nil e
  | false => exact e
theorem pw_or1 (ha : PT X a tA) : PW X (.BoolOp .Or [a] pos) tA := by
  intro wh pins s σ H Q I h
  refine isTrue_or (thn (ha pins s σ H Q I h) fun c s1 e => ?_)
  cases c with
  | false => exact isTrue_or_nil e
  | true => exact e
theorem pw_and (ha : PT X a tA) (hb : PW X (.BoolOp .And (b :: rest) pos) tB') : PW X (.BoolOp .And (a :: b :: rest) pos) (tAnd tA tB') := by
  intro wh pins s σ H Q I h
  refine isTrue_and (thn (ha pins s σ H _ I h) fun c s1 ⟨H1, I1, q1⟩ => ?_)
  cases c with
  | true => exact hb wh pins s1 σ H1 Q I1 q1
  | false => exact ⟨H1, I1, q1⟩
theorem pw_or (ha : PT X a tA) (hb : PW X (.BoolOp .Or (b :: rest) pos) tB') : PW X (.BoolOp .Or (a :: b :: rest) pos) (tOr tA tB') := by
  intro wh pins s σ H Q I h
  refine isTrue_or (thn (ha pins s σ H _ I h) fun c s1 ⟨H1, I1, q1⟩ => ?_)
  cases c with
  | true => exact ⟨H1, I1, q1⟩
  | false => exact hb wh pins s1 σ H1 Q I1 q1
theorem pt_not (ha : PT X a tA) : PT X (.UnaryOp .Not a pos) (tNot tA) := by
  intro pins s σ H Q I h
  exact isTrue_not (ha pins s σ H (fun c H1 => Q (!c) H1) I h)
/-- .. as values (bools) -/
def tAndV (ta tb : TE) : TE := fun σ H Q => ta σ H fun x H1 => ∃ c, x = .bl c ∧ if c = true then tb σ H1 Q else Q (.bl false) H1
theorem pe_one {op} {t : TE} (h : PE X a t) : PE X (.BoolOp op [a] pos) t := fun pins s σ H Q I hw => BoolOp_one (h pins s σ H Q I hw)
theorem pe_and (ha : PE X a ta) (hb : PE X (.BoolOp .And (b :: rest) pos) tb) : PE X (.BoolOp .And (a :: b :: rest) pos) (tAndV ta tb) := by
  intro pins s σ H Q I h
  refine BoolOp_and (thn (ha pins s σ H _ I h) fun v s1 ⟨x, H1, I1, r1, q1⟩ => ?_)
  obtain ⟨c, rfl, q1⟩ := q1
  cases r1
  refine wpAny_truthy_bool ?_
  cases c with
  | true => exact hb pins s1 σ H1 Q I1 q1
  | false => exact ⟨.bl false, H1, I1, rfl, q1⟩
end
end L2
namespace L2
open PySem PySem.Spec PyProof.Rows
/-! ### a list, a tuple that is read: tracked, frozen, or an object of the module -/
def SqL (K : PySem.W.Frag) (H : Hp) (a : Addr) (xs : List V) : Prop :=
  Rd H a (.lst xs) ∨
    ∃ (o : Obj) (its : Array Value) (n : Nat), K.lookup a = some o ∧ o.cls = .type "list" ∧ o.dict = none ∧ o.data = .seq its n ∧ its.size ≤ sizeLine ∧ Vals xs its.toList
def SqT (K : PySem.W.Frag) (H : Hp) (a : Addr) (xs : List V) : Prop :=
  Rd H a (.tup xs) ∨
    ∃ (o : Obj) (its : Array Value) (n : Nat), K.lookup a = some o ∧ o.cls = .type "tuple" ∧ o.data = .seq its n ∧ its.size ≤ sizeLine ∧ Vals xs its.toList
def absV : Value → Option V
  | .none => some .non
  | .bool b => some (.bl b)
  | .int i _ => some (.int i)
  | .str x _ => some (.str x)
  | .bytes b _ => some (.byt b)
  | .float b _ => some (.flt b)
  | .ref a => some (.ref a)
  | .type n => some (.ty n)
  | _ => none
theorem RelV.abs {x : V} {u : Value} (r : RelV x u) : absV u = some x := by
  cases x with
  | non => cases r; rfl
  | bl _ => cases r; rfl
  | int _ => obtain ⟨t, rfl⟩ := r; rfl
  | str _ => obtain ⟨t, rfl⟩ := r; rfl
  | byt _ => obtain ⟨t, rfl⟩ := r; rfl
  | flt _ => obtain ⟨t, rfl⟩ := r; rfl
  | ref _ => cases r; rfl
  | ty _ => cases r; rfl
theorem RelV.inj {x y : V} {u : Value} (r : RelV x u) (q : RelV y u) : x = y := Option.some.inj (r.abs.symm.trans q.abs)
theorem Vals.inj : ∀ {xs ys : List V} {us : List Value}, Vals xs us → Vals ys us → xs = ys
  | _, _, _, .nil, .nil => rfl
  | _, _, _, .cons r t, .cons r' t' => by rw [r.inj r', Vals.inj t t']
section
variable {X : Cx} {pins : List (Addr × Obj)} {σ : St} {H : Hp} {s : Shared} {a : Addr} {xs ys : List V}
theorem SqL.of {K : PySem.W.Frag} (h : H a = some (.lst xs)) : SqL K H a xs := .inl (.inl h)
theorem SqT.of {K : PySem.W.Frag} (h : H a = some (.tup xs)) : SqT K H a xs := .inl (.inl h)
theorem Inv.list (I : Inv X pins σ H s) (h : SqL X.K H a xs) : ∃ its : List Value, Vals xs its ∧ PlainL s.heap a its.toArray ∧ xs.length ≤ sizeLine := by
  rcases h with h | ⟨o, its, n, hk, hc, hd, hs, hz, r⟩
  · obtain ⟨z, its, n, r, e⟩ := h.ok I.hok
    exact ⟨its, r, ⟨_, n, e, rfl, rfl, rfl⟩, z⟩
  · refine ⟨its.toList, r, ⟨o, n, I.kIn a o hk, hc, hd, by simpa using hs⟩, ?_⟩
    have e := r.length
    simp only [Array.length_toList] at e
    omega
theorem Inv.tuple (I : Inv X pins σ H s) (h : SqT X.K H a xs) : ∃ its : List Value, Vals xs its ∧ IsTup s.heap a its.toArray ∧ xs.length ≤ sizeLine := by
  rcases h with h | ⟨o, its, n, hk, hc, hs, hz, r⟩
  · obtain ⟨z, its, r, p⟩ := h.ok I.hok
    exact ⟨its, r, p, z⟩
  · refine ⟨its.toList, r, ⟨o, I.kIn a o hk, hc, n, by simpa using hs⟩, ?_⟩
    have e := r.length
    simp only [Array.length_toList] at e
    omega
theorem Inv.list_inj (I : Inv X pins σ H s) (h : SqL X.K H a xs) (h' : SqL X.K H a ys) : xs = ys := by
  obtain ⟨its, r, ⟨o, n, e, _, _, d⟩, _⟩ := I.list h
  obtain ⟨its', r', ⟨o', n', e', _, _, d'⟩, _⟩ := I.list h'
  rw [e] at e'; cases e'
  rw [d] at d'
  injection d' with d1 _
  have : its = its' := by simpa using congrArg Array.toList d1
  subst this
  exact r.inj r'
end
/-! ### another wish about exceptions -/
abbrev Cx.wish (X : Cx) (E : Value → Shared → Prop) : Cx := { X with xe := E }
/-- no exception leaves -/
abbrev Cx.nox (X : Cx) : Cx := X.wish fun _ _ => False
theorem Cx.Ok.wish {X : Cx} (ok : X.Ok) (E : Value → Shared → Prop) : (X.wish E).Ok :=
  ⟨ok.mod, ok.kind, ok.glob, ok.blt, ok.above, ok.inj, ok.has, ok.cab, ok.hd, ok.frames, ok.stk, ok.exf, ok.bs, ok.bsz, ok.noex, ok.exfs, ok.funs, ok.frf⟩
theorem Cx.Ok.unwish {X : Cx} {E : Value → Shared → Prop} (ok : (X.wish E).Ok) : X.Ok :=
  ⟨ok.mod, ok.kind, ok.glob, ok.blt, ok.above, ok.inj, ok.has, ok.cab, ok.hd, ok.frames, ok.stk, ok.exf, ok.bs, ok.bsz, ok.noex, ok.exfs, ok.funs, ok.frf⟩
section
variable {X : Cx} {pins : List (Addr × Obj)} {σ : St} {H : Hp} {s : Shared} {E : Value → Shared → Prop}
theorem Inv.wish (I : Inv X pins σ H s) (E : Value → Shared → Prop) : Inv (X.wish E) pins σ H s := ⟨I.ok.wish E, I.os, I.bare, I.base, I.loc, I.cell, I.free, I.freeC, I.pin, I.hok, I.len⟩
theorem Inv.unwish (I : Inv (X.wish E) pins σ H s) : Inv X pins σ H s := ⟨I.ok.unwish, I.os, I.bare, I.base, I.loc, I.cell, I.free, I.freeC, I.pin, I.hok, I.len⟩
theorem SP.unwish {D : Ends} {f : Flow} {s' : Shared} (h : SP (X.wish E) pins D f s') : SP X pins D f s' := by
  cases f with
  | next => obtain ⟨σ', H', I, q⟩ := h; exact ⟨σ', H', I.unwish, q⟩
  | brk => obtain ⟨σ', H', I, q⟩ := h; exact ⟨σ', H', I.unwish, q⟩
  | cont => obtain ⟨σ', H', I, q⟩ := h; exact ⟨σ', H', I.unwish, q⟩
  | ret u => obtain ⟨v, σ', H', I, r, q⟩ := h; exact ⟨v, σ', H', I.unwish, r, q⟩
theorem PSs.nox {st : List Stmt} {t : TS} (h : PSs X.nox st t) : PSs X st t := fun pins s σ H D I hw =>
  wpAny_mono (h pins s σ H D (I.wish _) hw) (fun _ _ q => q.unwish) fun _ _ z => False.elim z
end
/-! ### blocks and small statements -/
section
variable {X : Cx} {st : Stmt} {rest : List Stmt} {t u : TS} {e : Expr} {te : TE} {pos : Pos}
def tNext : TS := fun D σ H => D.nx σ H
def tSeq (t u : TS) : TS := fun D σ H => t { D with nx := u D } σ H
theorem pss_nil : PSs X [] tNext := fun _ _ σ H _ I h => wpAny_execs_nil ⟨σ, H, I, h⟩
theorem pss_cons (h1 : PS X st t) (h2 : PSs X rest u) : PSs X (st :: rest) (tSeq t u) := by
  intro pins s σ H D I h
  refine wpAny_execs_cons (thn (h1 pins s σ H { D with nx := u D } I h) fun f s1 q => ?_)
  cases f with
  | next =>
    obtain ⟨σ', H', I', q⟩ := q
    exact h2 pins s1 σ' H' D I' q
  | ret v => exact q
  | brk => exact q
  | cont => exact q
theorem pss_one (h1 : PS X st t) : PSs X [st] t := by
  intro pins s σ H D I h
  refine wpAny_execs_cons (thn (h1 pins s σ H D I h) fun f s1 q => ?_)
  cases f with
  | next => exact wpAny_execs_nil q
  | ret v => exact q
  | brk => exact q
  | cont => exact q
def tBreak : TS := fun D σ H => D.bk σ H
theorem ps_break : PS X (.Break pos) tBreak := fun _ _ σ H _ I h => wpAny_Break ⟨σ, H, I, h⟩
/-- in a def's body nothing is shown -/
theorem Inv.quiet {pins : List (Addr × Obj)} {σ : St} {H : Hp} {s : Shared} (I : Inv X pins σ H s) : interactive X.env = false := by simp [interactive, I.ok.kind]
/-- an expression whose value is dropped -/
def tDrop (te : TE) : TS := fun D σ H => te σ H fun _ H1 => D.nx σ H1
theorem ps_expr (he : PE X e te) (hs : swapsWith e none pos.line X.env = pure false := by rfl) : PS X (.Expr e pos) (tDrop te) := by
  intro pins s σ H D I h
  exact wpAny_Expr_any (thn (he pins s σ H _ I h) fun v s1 ⟨x, H1, I1, r1, q1⟩ => ⟨σ, H1, I1, q1⟩) I.quiet hs
def tRet (te : TE) : TS := fun D σ H => te σ H D.rt
theorem ps_ret (he : PE X e te) : PS X (.Return (some e) pos) (tRet te) := by
  intro pins s σ H D I h
  exact wpAny_Return_some (thn (he pins s σ H _ I h) fun v s1 ⟨x, H1, I1, r1, q1⟩ => ⟨x, σ, H1, I1, r1, q1⟩)
def tIfS (c : TT) (t u : TS) : TS := fun D σ H => c σ H fun b H1 => if b = true then t D σ H1 else u D σ H1
theorem ps_if {c : Expr} {a b : List Stmt} {tc : TT} (hc : PT X c tc) (ha : PSs X a t) (hb : PSs X b u) : PS X (.If c a b pos) (tIfS tc t u) := by
  intro pins s σ H D I h
  refine wpAny_If (thn (hc pins s σ H _ I h) fun d s1 ⟨H1, I1, q1⟩ => ?_)
  cases d with
  | true => exact ha pins s1 σ H1 D I1 q1
  | false => exact hb pins s1 σ H1 D I1 q1
end
/-! ### targets -/
abbrev TG := V → St → Hp → (St → Hp → Prop) → Prop
abbrev TGs := List V → St → Hp → (St → Hp → Prop) → Prop
def PG (X : Cx) (target : Expr) (t : TG) : Prop :=
  ∀ (pins : List (Addr × Obj)) (s : Shared) (σ : St) (H : Hp) (v : V) (u : Value) (Q : St → Hp → Prop), Inv X pins σ H s → RelV v u → t v σ H Q →
    wpAny (model X.prog X.w) X.A (assign target X.env u) (fun _ s' => ∃ σ' H', Inv X pins σ' H' s' ∧ Q σ' H') X.xe s
/-- several targets, one after another -/
def PGs (X : Cx) (ts : List Expr) (t : TGs) : Prop :=
  ∀ (pins : List (Addr × Obj)) (s : Shared) (σ : St) (H : Hp) (vs : List V) (us : List Value) (Q : St → Hp → Prop), Inv X pins σ H s → Vals vs us → t vs σ H Q →
    wpAny (model X.prog X.w) X.A (assignInOrder ((assignEach ts X.env).map (·.2)) us) (fun _ s' => ∃ σ' H', Inv X pins σ' H' s' ∧ Q σ' H') X.xe s
/-- a op= b, by values -/
abbrev TIp := V → V → Hp → VK → Prop
def PIp (X : Cx) (op : Operator) (t : TIp) : Prop :=
  ∀ (pins : List (Addr × Obj)) (s : Shared) (σ : St) (H : Hp) (x y : V) (v u : Value) (Q : VK), Inv X pins σ H s → RelV x v → RelV y u → t x y H Q →
    wpAny (model X.prog X.w) X.A (inplaceOp op v u) (EP X pins σ Q) X.xe s
section
variable {X : Cx} {pos : Pos}
def gName (i : Nat) : TG := fun v σ H Q => Q (σ.set i (some v)) H
theorem pg_name {i : Nat} {x : Str} (hN : X.N.Nodup) (hi : X.N[i]? = some x) (hx : Loc X.env.scope x) (hf : X.fn x = true ∨ X.env.scope.names.lookup x = some .local := by first | exact .inl rfl | exact .inr rfl | assumption) : PG X (.Name x pos) (gName i) := by
  intro pins s σ H v u Q I r h
  exact wpAny_assign_Name (store_ok I hN hi hx r (fun s' I' => ⟨_, H, I', h⟩) hf)
def gNil : TGs := fun vs σ H Q => vs = [] ∧ Q σ H
def gCons (t : TG) (u : TGs) : TGs := fun vs σ H Q => ∃ v r, vs = v :: r ∧ t v σ H fun σ' H' => u r σ' H' Q
theorem pgs_nil : PGs X [] gNil := by
  intro pins s σ H vs us Q I r h
  obtain ⟨e, h⟩ := h
  subst e
  cases r
  exact assignInOrder_nil ⟨σ, H, I, h⟩
theorem pgs_cons {e : Expr} {es : List Expr} {t : TG} {u : TGs} (h1 : PG X e t) (h2 : PGs X es u)
    (hs : (assignEach (e :: es) X.env).map (·.2) = assign e X.env :: (assignEach es X.env).map (·.2) := by rfl) : PGs X (e :: es) (gCons t u) := by
  intro pins s σ H vs us Q I r h
  obtain ⟨v, vr, e1, h⟩ := h
  subst e1
  cases r with
  | cons r rr =>
    rw [hs]
    refine assignInOrder_cons (thn (h1 pins s σ H _ _ _ I r h) fun _ s1 ⟨σ1, H1, I1, q1⟩ => ?_)
    exact h2 pins s1 σ1 H1 _ _ Q I1 rr q1
/-- (a, b, ..) = a tuple of that length -/
def gTup (K : PySem.W.Frag) (n : Nat) (t : TGs) : TG := fun v σ H Q => ∃ a xs, v = .ref a ∧ SqT K H a xs ∧ xs.length = n ∧ t xs σ H Q
theorem pg_tup {es : List Expr} {k : Nat} {t : TGs} {n : Nat} (hc : X.calm = true) (h : PGs X es t)
    (hn : (assignEach es X.env).length = n := by rfl) (hst : (assignEach es X.env).findIdx? (·.1) = none := by rfl) : PG X (.Tuple es k pos) (gTup X.K n t) := by
  intro pins s σ H v u Q I r hw
  obtain ⟨a, xs, e1, hq, hl, hw⟩ := hw
  subst e1
  cases r
  obtain ⟨its, rv, ht, hz⟩ := I.tuple hq
  refine assign_Tuple_tuple (I.ok.hd hc) ht (by simp [hn, ← hl, rv.length]) hst fun h' hx => ?_
  have I1 : Inv X pins σ H { s with heap := h' } := I.kept (t' := s.toks) fun b o e => hx b o (Nat.ne_of_lt (Heap.lt_size e)) e
  exact h pins _ σ H xs _ Q I1 (by simpa using rv) hw
/-- target = value -/
def tAsg (te : TE) (g : TG) : TS := fun D σ H => te σ H fun x H1 => g x σ H1 D.nx
/-- name = value -/
theorem ps_set {i : Nat} {x : Str} {e : Expr} {te : TE} {pos' : Pos} (hN : X.N.Nodup) (hi : X.N[i]? = some x) (hx : Loc X.env.scope x) (he : PE X e te) (hs : swapsWith e (some (.Name x pos')) pos.line X.env = pure false := by rfl) (hf : X.fn x = true ∨ X.env.scope.names.lookup x = some .local := by first | exact .inl rfl | exact .inr rfl | assumption) :
    PS X (.Assign [.Name x pos'] e pos) (tAsg te (gName i)) := by
  intro pins s σ H D I h
  refine wpAny_Assign_Name (thn (he pins s σ H _ I h) fun v s1 ⟨y, H1, I1, r1, q1⟩ => ?_) hs
  exact store_ok I1 hN hi hx r1 (fun s2 I2 => ⟨_, H1, I2, q1⟩) hf
/-- name op= e -/
def tAug (i : Nat) (te : TE) (ti : TIp) : TS := fun D σ H => ∃ x, σ[i]? = some (some x) ∧ te σ H fun y H1 => ti x y H1 fun z H2 => D.nx (σ.set i (some z)) H2
theorem ps_aug {i : Nat} {x : Str} {e : Expr} {te : TE} {op : Operator} {ti : TIp} {pos' : Pos} (hN : X.N.Nodup) (hi : X.N[i]? = some x) (hx : Loc X.env.scope x) (he : PE X e te) (ho : PIp X op ti) (hf : X.fn x = true ∨ X.env.scope.names.lookup x = some .local := by first | exact .inl rfl | exact .inr rfl | assumption) :
    PS X (.AugAssign (.Name x pos') op e pos) (tAug i te ti) := by
  intro pins s σ H D I h
  obtain ⟨v, e1, h⟩ := h
  obtain ⟨m, hn, hl⟩ := I.loc
  have vis : Vis X.env.scope x := by rcases hx with k | k; exact .inl k; exact .inr (.inl k)
  obtain ⟨u, r, l⟩ := hl i x v hi e1 vis
  refine wpAny_AugAssign_Name ?_
  have go : wpAny (model X.prog X.w) X.A (eval e X.env) (fun w s₂ => wpAny (model X.prog X.w) X.A (inplaceOp op u w) (fun r s₃ => wpAny (model X.prog X.w) X.A (storeName X.env x r) (fun _ => SP X pins D .next) X.xe s₃) X.xe s₂) X.xe s := by
    refine thn (he pins s σ H _ I h) fun w s1 ⟨y, H1, I1, r1, q1⟩ => ?_
    refine thn (ho pins s1 σ H1 v y u w _ I1 r r1 q1) fun z s2 ⟨zv, H2, I2, r2, q2⟩ => ?_
    exact store_ok I2 hN hi hx r2 (fun s3 I3 => ⟨_, H2, I3, q2⟩) hf
  rcases l with ⟨hk, hm⟩ | ⟨hk, c, hc, hcell⟩
  · exact wpAny_loadName_local I.ok.kind hk hn hm go
  · rcases hk with hk | hk
    · exact wpAny_loadName_cell I.ok.kind hk hc hcell go
    · rcases hx with k | k
      · have : X.env.scope.names.lookup x = some .free := hk
        rw [k] at this; cases this
      · have : X.env.scope.names.lookup x = some .free := hk
        rw [k] at this; cases this
/-- ints -/
def ipI (f : Int → Int → Int) : TIp := fun x y H Q => ∃ i j, x = .int i ∧ y = .int j ∧ Q (.int (f i j)) H
theorem ip_add : PIp X .Add (ipI fun i j => i + j) := by
  intro pins s σ H x y v u Q I r1 r2 h
  obtain ⟨i, j, e1, e2, q⟩ := h
  subst e1; subst e2
  obtain ⟨t, rfl⟩ := r1
  obtain ⟨t', rfl⟩ := r2
  exact iadd_int ⟨.int _, H, I.tok _, ⟨_, rfl⟩, q⟩
end
/-! ### while -/
section
variable {X : Cx} {pos : Pos}
/-- the invariant W with its measure -/
def tWhile (c : TT) (tb : TS) : TS := fun D σ H => ∃ W : Nat → St → Hp → Prop, (∃ m, W m σ H) ∧ ∀ m σ H, W m σ H →
  c σ H fun b H1 => if b = true then ∃ N : St → Hp → Prop, (∀ σ' H', N σ' H' → ∃ m', m' < m ∧ W m' σ' H') ∧ tb { D with nx := N, ct := N, bk := D.nx } σ H1 else D.nx σ H1
theorem ps_while {c : Expr} {body : List Stmt} {tc : TT} {tb : TS} (hp : PassesOwn (model X.prog X.w) X.A X.env X.xe) (hc : PT X c tc) (hb : PSs X body tb) : PS X (.While c body [] pos) (tWhile tc tb) := by
  intro pins s σ H D I h
  obtain ⟨W, ⟨m0, w0⟩, turn⟩ := h
  refine wpAny_While (codeAny_whileLoop (fun n s' => ∃ σ' H', Inv X pins σ' H' s' ∧ W n σ' H') ?_ m0 ⟨σ, H, I, w0⟩)
  rintro n s1 ⟨σ1, H1, I1, w1⟩
  refine wpAny_passesOwn hp (thn (hc pins s1 σ1 H1 _ I1 (turn n σ1 H1 w1)) fun b s2 ⟨H2, I2, q2⟩ => ?_)
  cases b with
  | true =>
    obtain ⟨N, hN, q2⟩ := q2
    rw [if_pos rfl]
    refine wpAny_passesOwn hp (thn (hb pins s2 σ1 H2 _ I2 q2) fun f s3 q3 => ?_)
    cases f with
    | next =>
      obtain ⟨σ3, H3, I3, n3⟩ := q3
      obtain ⟨m', hm, w3⟩ := hN σ3 H3 n3
      exact ⟨m', hm, σ3, H3, I3, w3⟩
    | cont =>
      obtain ⟨σ3, H3, I3, n3⟩ := q3
      obtain ⟨m', hm, w3⟩ := hN σ3 H3 n3
      exact ⟨m', hm, σ3, H3, I3, w3⟩
    | brk => exact q3
    | ret v => exact q3
  | false =>
    rw [if_neg Bool.false_ne_true]
    exact wpAny_execs_nil ⟨σ1, H2, I2, q2⟩
end
/-! ### what a loop or a comprehension walks -/
/-- at turn i: it yields x (the heap may grow), or it stops -/
structure It where
  go : Nat → Hp → Prop
  yld : Nat → Hp → V → Hp → Prop
  stop : Nat → Hp → Prop
/-- the iterator's own objects may turn: they are not the frame's, not pinned, younger than the entry (or a comprehension's own) -/
def FpOk (X : Cx) (pins : List (Addr × Obj)) (H : Hp) (b : Addr) : Prop :=
  H b = none ∧ b ≠ X.env.locals ∧ b ∉ X.fs ∧ (b ∈ X.ex ∨ X.s_0.heap.objs.size ≤ b) ∧ (∀ x c, X.env.cells.lookup x = some c → c ≠ b) ∧ ∀ p ∈ X.pn ++ pins, p.1 ≠ b
theorem Inv.fpOk {X : Cx} {pins : List (Addr × Obj)} {σ : St} {H H' : Hp} {s : Shared} {b : Addr} (I : Inv X pins σ H s) (hb : s.heap.objs.size ≤ b) (hn : H' b = none) : FpOk X pins H' b := by
  refine ⟨hn, Nat.ne_of_gt (Nat.lt_of_lt_of_le I.lt hb), I.nofs hb, .inr (Nat.le_trans I.sz hb), fun x c e z => ?_, fun p hp z => ?_⟩
  · obtain ⟨v, q⟩ := I.cell x c e
    exact absurd (Nat.lt_of_lt_of_le q.lt (by rw [z]; exact hb)) (Nat.lt_irrefl _)
  · exact absurd (Nat.lt_of_lt_of_le (Heap.lt_size (I.pin p hp).1) (by rw [z]; exact hb)) (Nat.lt_irrefl _)
structure Turn (P : Program) (w : World) (K : PySem.W.Frag) (tg : Expr) (J : It) (fp : List Addr) (it : Addr) (tn : Nat → Heap → Prop) : Prop where
  mem : it ∈ fp
  obj : ∀ i h, tn i h → ∀ b ∈ fp, ∃ o, h.get? b = some o ∧ ∀ v, o.data ≠ .cell v
  keep : ∀ i h h', tn i h → (∀ b ∈ fp, ∀ o, h.get? b = some o → h'.get? b = some o) → tn i h'
  item : ∀ (X : Cx), X.prog = P → X.w = w → X.K = K → X.calm = true → ∀ (i : Nat) (pins : List (Addr × Obj)) (s : Shared) (σ : St) (H : Hp) (E : Value → Shared → Prop), Inv X pins σ H s → (∀ b ∈ fp, FpOk X pins H b) → tn i s.heap → J.go i H →
    wpAny (model P w) X.A (pyNext (.ref it)) (fun r s1 => ∃ u, r = some u ∧
      wpAny (model P w) X.A (letOwnedTupleGo tg (.ref it) u) (fun _ s2 => ∃ x H', Inv X pins σ H' s2 ∧ RelV x u ∧ J.yld i H x H' ∧ tn (i + 1) s2.heap ∧ ∀ b ∈ fp, H' b = none) E s1) E s
  done : ∀ (X : Cx), X.prog = P → X.w = w → X.K = K → X.calm = true → ∀ (i : Nat) (pins : List (Addr × Obj)) (s : Shared) (σ : St) (H : Hp) (E : Value → Shared → Prop), Inv X pins σ H s → (∀ b ∈ fp, FpOk X pins H b) → tn i s.heap → J.stop i H →
    wpAny (model P w) X.A (pyNext (.ref it)) (fun r s1 => r = none ∧ Inv X pins σ H s1) E s
  self : ∀ (A : Around) (i : Nat) (s : Shared) (Q : Value → Shared → Prop) (E : Value → Shared → Prop), tn i s.heap → Q (.ref it) s → wpAny (model P w) A (pyIter (.ref it)) Q E s
abbrev TI := St → Hp → (It → Hp → Prop) → Prop
/-- an iterator has come -/
def PIE (X : Cx) (pins : List (Addr × Obj)) (σ : St) (tg : Expr) (R : It → Hp → Prop) (itv : Value) (s2 : Shared) : Prop :=
  ∃ (it : Addr) (fp : List Addr) (tn : Nat → Heap → Prop) (J : It) (H' : Hp), itv = .ref it ∧ Inv X pins σ H' s2 ∧ Turn X.prog X.w X.K tg J fp it tn ∧ tn 0 s2.heap ∧ (∀ b ∈ fp, FpOk X pins H' b) ∧ R J H'
def PI (X : Cx) (tg iter : Expr) (wi : TI) : Prop :=
  ∀ (pins : List (Addr × Obj)) (s : Shared) (σ : St) (H : Hp) (R : It → Hp → Prop), Inv X pins σ H s → wi σ H R →
    wpAny (model X.prog X.w) X.A (eval iter X.env) (fun v s1 => wpAny (model X.prog X.w) X.A (pyIter v) (PIE X pins σ tg R) X.xe s1) X.xe s
/-- the step ahead of the store is nothing for an iterator that keeps no tuple -/
theorem go_of {M : Model} {A : Around} {E : Value → Shared → Prop} {s : Shared} {tg : Expr} {it : Addr} {u : Value} {o : Obj} {n : String} {vs : Array Value} {Q : Unit → Shared → Prop} (ho : s.heap.get? it = some o) (hc : o.cls = .type n) (hd : o.data = .fields vs)
    (hn : ["enumerate", "zip", "dict_itemiterator", "dict_reverseitemiterator", "odict_iterator", "itertools.zip_longest", "itertools.pairwise"].contains n = false) (hQ : Q () s) : wpAny M A (letOwnedTupleGo tg (.ref it) u) Q E s := by
  unfold letOwnedTupleGo
  cases tg <;> first
    | exact wpAny_pure hQ
    | (cases u <;> first
        | exact wpAny_pure hQ
        | (refine wpAny_bind (wpAny_load ho ?_)
           rw [hc, hd]
           show wpAny M A (if (["enumerate", "zip", "dict_itemiterator", "dict_reverseitemiterator", "odict_iterator", "itertools.zip_longest", "itertools.pairwise"].contains n && vs[0]? == some (rawInt _)) = true then _ else _) Q E s
           rw [if_neg (by intro h; rw [hn, Bool.false_and] at h; cases h)]
           exact wpAny_pure hQ))
/-- the list at a, as it stands at each turn (a loop may append to it) -/
def Itl (K : PySem.W.Frag) (a : Addr) : It :=
  ⟨fun i H => ∃ xs x, SqL K H a xs ∧ xs[i]? = some x, fun i H x H' => H' = H ∧ ∀ xs, SqL K H a xs → xs[i]? = some x, fun i H => ∃ xs, SqL K H a xs ∧ xs.length ≤ i⟩
theorem turn_list {P : Program} {w : World} {K : PySem.W.Frag} {tg : Expr} (a it : Addr) : Turn P w K tg (Itl K a) [it] it (fun i h => h.IsListIter it a i) where
  mem := by simp
  obj := fun i h st b hb => by
    have e : b = it := by simpa using hb
    subst e
    obtain ⟨o, e, c, d⟩ := st
    exact ⟨o, e, fun v z => by rw [d] at z; cases z⟩
  keep := fun i h h' st k => st.at fun o e => k it (by simp) o e
  item := by
    intro X hP hw hK hc i pins s σ H E I hf st hg
    subst hP hw hK
    obtain ⟨xs, x, hq, hx⟩ := hg
    obtain ⟨its, rv, p, hz⟩ := I.list hq
    obtain ⟨u, hu, ru⟩ := rv.get hx
    obtain ⟨f0, f1, f2, f3, f4, f5⟩ := hf it (by simp)
    refine wpAny_pyNext_list_item st p.isList (x := u) (by simpa using hu) fun h' st' sb => ?_
    have I1 : Inv X pins σ H { s with heap := h' } := I.turned (t' := s.toks) (fun b o hb e => (sb.2 b hb).trans e) f0 f1 f3 f4 f5
    obtain ⟨o, e, c, d⟩ := id st'
    exact ⟨u, rfl, go_of (s := { s with heap := h' }) e c d (by decide) ⟨x, H, I1, ru, ⟨rfl, fun ys hy => by rw [I.list_inj hy hq]; exact hx⟩, st', fun b hb => (hf b hb).1⟩⟩
  done := by
    intro X hP hw hK hc i pins s σ H E I hf st hg
    subst hP hw hK
    obtain ⟨xs, hq, hx⟩ := hg
    obtain ⟨its, rv, p, hz⟩ := I.list hq
    obtain ⟨f0, f1, f2, f3, f4, f5⟩ := hf it (by simp)
    have hl := rv.length
    exact wpAny_pyNext_list_end (I.ok.hd hc) st p.isList (by simp; omega) fun h' eb => ⟨rfl, I.turned (t' := s.toks) (fun b o hb e => eb b o hb e) f0 f1 f3 f4 f5⟩
  self := fun _ _ _ _ _ st h => wpAny_pyIter_listiter st h
end L2
namespace L2
open PySem PySem.Spec PyProof.Rows
section
variable {X : Cx} {tg : Expr}
def iList (K : PySem.W.Frag) (tl : TE) : TI := fun σ H R => tl σ H fun x H1 => ∃ a, x = .ref a ∧ (∃ xs, SqL K H1 a xs) ∧ R (Itl K a) H1
theorem pi_list {l : Expr} {tl : TE} (hl : PE X l tl) : PI X tg l (iList X.K tl) := by
  intro pins s σ H R I h
  refine thn (hl pins s σ H _ I h) fun v s1 ⟨x, H1, I1, r1, q1⟩ => ?_
  obtain ⟨a, e, ⟨xs, hq⟩, q⟩ := q1
  subst e
  cases r1
  obtain ⟨its, rv, p, hz⟩ := I1.list hq
  refine wpAny_pyIter_list p.isList ?_
  refine ⟨s1.heap.objs.size, [s1.heap.objs.size], _, _, H1, rfl, I1.kept (t' := s1.toks) fun b o e => Heap.get?_push_of_some _ e, turn_list a _, ⟨_, Heap.get?_push_size _ rfl, rfl, rfl⟩, fun b hb => ?_, q⟩
  have e : b = s1.heap.objs.size := by simpa using hb
  subst e
  exact I1.fpOk (Nat.le_refl _) (I1.hok.fresh (Nat.le_refl _))
/-! ### for -/
/-- W: the invariant by the turn and a measure; N: what the body is to reach -/
def tFor (wi : TI) (g : TG) (tb : TS) : TS := fun D σ H => wi σ H fun J H1 => ∃ W : Nat → Nat → St → Hp → Prop, (∃ m, W 0 m σ H1) ∧ ∀ i m σ H, W i m σ H →
  (J.stop i H ∧ D.nx σ H) ∨ (J.go i H ∧ ∃ N : St → Hp → Prop, (∀ σ' H', N σ' H' → ∃ m', m' < m ∧ W (i + 1) m' σ' H') ∧ ∀ x H', J.yld i H x H' → g x σ H' fun σ2 H2 => tb { D with nx := N, ct := N, bk := D.nx } σ2 H2)
/-- the records at fp as they stand -/
def pinsAt (fp : List Addr) (h : Heap) : List (Addr × Obj) := fp.filterMap fun b => (h.get? b).map fun o => (b, o)
theorem mem_pinsAt {fp : List Addr} {h : Heap} {b : Addr} {o : Obj} (hb : b ∈ fp) (e : h.get? b = some o) : (b, o) ∈ pinsAt fp h := List.mem_filterMap.mpr ⟨b, hb, by rw [e]; rfl⟩
theorem of_pinsAt {fp : List Addr} {h : Heap} {p : Addr × Obj} (hp : p ∈ pinsAt fp h) : p.1 ∈ fp ∧ h.get? p.1 = some p.2 := by
  obtain ⟨b, hb, e⟩ := List.mem_filterMap.mp hp
  cases q : h.get? b with
  | none => rw [q] at e; cases e
  | some o =>
    rw [q] at e
    have e' : (b, o) = p := Option.some.inj e
    subst e'
    exact ⟨hb, q⟩
theorem Inv.pinned {pins : List (Addr × Obj)} {σ : St} {H : Hp} {s : Shared} {fp : List Addr} (I : Inv X pins σ H s) (hf : ∀ b ∈ fp, FpOk X pins H b) (ho : ∀ b ∈ fp, ∃ o, s.heap.get? b = some o ∧ ∀ v, o.data ≠ .cell v) : Inv X (pins ++ pinsAt fp s.heap) σ H s :=
  I.pins_of fun p hp => (List.mem_append.mp hp).elim (fun z => I.pin p (List.mem_append_right _ z)) fun z => by
    obtain ⟨hb, e⟩ := of_pinsAt z
    obtain ⟨f0, f1, f2, _⟩ := hf p.1 hb
    obtain ⟨o, e', d⟩ := ho p.1 hb
    rw [e] at e'; cases e'
    exact ⟨e, f0, f1, f2, d⟩
theorem Inv.unpinned {pins pl : List (Addr × Obj)} {σ : St} {H : Hp} {s : Shared} (I : Inv X (pins ++ pl) σ H s) : Inv X pins σ H s := I.pins_of fun p hp => I.pin p (List.mem_append_right _ (List.mem_append_left _ hp))
theorem ps_for {iter : Expr} {body : List Stmt} {wi : TI} {g : TG} {tb : TS} {pos : Pos} (hp : PassesOwn (model X.prog X.w) X.A X.env X.xe) (hc : X.calm = true) (hi : PI X tg iter wi) (hg : PG X tg g) (hb : PSs X body tb)
    (hs : ∀ x, foldedSetIterable iter X.env x = pure x := by intro _; rfl) : PS X (.For tg iter body [] pos) (tFor wi g tb) := by
  intro pins s σ H D I h
  refine wpAny_For (thn (hi pins s σ H _ I h) fun v s1 h1 => thn h1 fun itv s2 h2 => ?_) hs
  obtain ⟨it, fp, tn, J, H2, e, I2, T, st2, f2, W, ⟨m0, w0⟩, turn⟩ := h2
  subst e
  -- what stays true of the iterator's objects through the loop
  have stat : ∀ {H' : Hp}, (∀ b ∈ fp, H' b = none) → ∀ b ∈ fp, FpOk X pins H' b := fun hn b hb => ⟨hn b hb, (f2 b hb).2⟩
  refine codeAny_forLoop_any (fun n s' => ∃ i σ' H', Inv X pins σ' H' s' ∧ tn i s'.heap ∧ (∀ b ∈ fp, H' b = none) ∧ W i n σ' H') ?_ m0 ⟨0, σ, H2, I2, st2, fun b hb => (f2 b hb).1, w0⟩
  rintro n s3 ⟨i, σ3, H3, I3, st3, fr3, w3⟩
  rcases turn i n σ3 H3 w3 with ⟨stop, qn⟩ | ⟨go, N, hN, step⟩
  · refine wpAny_passesOwn hp (thn (T.done X rfl rfl rfl hc i pins s3 σ3 H3 X.xe I3 (stat fr3) st3 stop) fun r s4 ⟨hr, I4⟩ => ?_)
    subst hr
    exact wpAny_execs_nil ⟨σ3, H3, I4, qn⟩
  · refine wpAny_passesOwn hp (thn (T.item X rfl rfl rfl hc i pins s3 σ3 H3 X.xe I3 (stat fr3) st3 go) fun r s4 ⟨u, hr, h4⟩ => ?_)
    subst hr
    refine wpAny_passesOwn hp (thn h4 fun _ s5 ⟨x, H5, I5, r5, y5, st5, fr5⟩ => ?_)
    have I5' := I5.pinned (stat fr5) (T.obj _ _ st5)
    refine wpAny_passesOwn hp (thn (hg _ s5 σ3 H5 x u _ I5' r5 (step x H5 y5)) fun _ s6 ⟨σ6, H6, I6, q6⟩ => ?_)
    refine wpAny_passesOwn hp (thn (hb _ s6 σ6 H6 _ I6 q6) fun f s7 q7 => ?_)
    have again : ∀ {σ7 : St} {H7 : Hp}, Inv X (pins ++ pinsAt fp s5.heap) σ7 H7 s7 → N σ7 H7 → ∃ m, m < n ∧ ∃ i σ' H', Inv X pins σ' H' s7 ∧ tn i s7.heap ∧ (∀ b ∈ fp, H' b = none) ∧ W i m σ' H' := fun {σ7 H7} I7 n7 => by
      obtain ⟨m', hm, w7⟩ := hN σ7 H7 n7
      refine ⟨m', hm, i + 1, σ7, H7, I7.unpinned, T.keep _ _ _ st5 fun b hb o e => (I7.pin (b, o) (List.mem_append_right _ (List.mem_append_right _ (mem_pinsAt hb e)))).1, fun b hb => ?_, w7⟩
      obtain ⟨o, e, d⟩ := T.obj _ _ st5 b hb
      exact (I7.pin (b, o) (List.mem_append_right _ (List.mem_append_right _ (mem_pinsAt hb e)))).2.1
    cases f with
    | next => obtain ⟨σ7, H7, I7, n7⟩ := q7; exact again I7 n7
    | cont => obtain ⟨σ7, H7, I7, n7⟩ := q7; exact again I7 n7
    | brk => obtain ⟨σ7, H7, I7, q7⟩ := q7; exact ⟨σ7, H7, I7.unpinned, q7⟩
    | ret v => obtain ⟨x7, σ7, H7, I7, r7, q7⟩ := q7; exact ⟨x7, σ7, H7, I7.unpinned, r7, q7⟩
end
/-! ### the forms one uses -/
/-- over a list that the body leaves as it is -/
theorem for_list {K : PySem.W.Frag} {a : Addr} {xs : List V} {g : TG} {tb : TS} {D : Ends} {σ : St} {H : Hp} (Pv : Nat → St → Hp → Prop) (h0 : Pv 0 σ H) (hl : ∀ i σ H, i ≤ xs.length → Pv i σ H → SqL K H a xs)
    (hs : ∀ i x σ H, xs[i]? = some x → Pv i σ H → g x σ H fun σ2 H2 => tb { D with nx := Pv (i + 1), ct := Pv (i + 1), bk := D.nx } σ2 H2) (hd : ∀ σ H, Pv xs.length σ H → D.nx σ H) :
    ∃ W : Nat → Nat → St → Hp → Prop, (∃ m, W 0 m σ H) ∧ ∀ i m σ H, W i m σ H →
      ((Itl K a).stop i H ∧ D.nx σ H) ∨ ((Itl K a).go i H ∧ ∃ N : St → Hp → Prop, (∀ σ' H', N σ' H' → ∃ m', m' < m ∧ W (i + 1) m' σ' H') ∧ ∀ x H', (Itl K a).yld i H x H' → g x σ H' fun σ2 H2 => tb { D with nx := N, ct := N, bk := D.nx } σ2 H2) := by
  refine ⟨fun i m σ H => m = xs.length - i ∧ i ≤ xs.length ∧ Pv i σ H, ⟨xs.length, by simp, Nat.zero_le _, h0⟩, ?_⟩
  rintro i m σ H ⟨rfl, hi, p⟩
  have q := hl i σ H hi p
  by_cases hlt : i < xs.length
  · refine .inr ⟨⟨xs, xs[i], q, by simp [hlt]⟩, Pv (i + 1), fun σ' H' p' => ⟨xs.length - (i + 1), by omega, rfl, hlt, p'⟩, fun x H' y => ?_⟩
    obtain ⟨e, y⟩ := y
    subst e
    exact hs i x σ _ (y xs q) p
  · have e : i = xs.length := by omega
    subst e
    exact .inl ⟨⟨xs, q, Nat.le_refl _⟩, hd σ H p⟩
end L2
namespace L2
open PySem PySem.Spec PyProof.Rows
abbrev R2 := V → V → Hp → VK → Prop
/-- a two-place operation on values: f is binaryOp op, inplaceOp op or compareOp op -/
def OpR (X : Cx) (f : Value → Value → Sem Value) (r : R2) : Prop :=
  ∀ (pins : List (Addr × Obj)) (s : Shared) (σ : St) (H : Hp) (x y : V) (v u : Value) (Q : VK), Inv X pins σ H s → RelV x v → RelV y u → r x y H Q →
    wpAny (model X.prog X.w) X.A (f v u) (EP X pins σ Q) X.xe s
/-- a call of a value that is known (a builtin, a type) with values -/
def CallR (X : Cx) (f : Value) (r : List V → Hp → VK → Prop) : Prop :=
  ∀ (pins : List (Addr × Obj)) (s : Shared) (σ : St) (H : Hp) (xs : List V) (us : List Value) (Q : VK), Inv X pins σ H s → Vals xs us → r xs H Q →
    wpAny (model X.prog X.w) X.A (call f us) (EP X pins σ Q) X.xe s
/-- a value's truth -/
def TruR (X : Cx) (r : V → Hp → (Bool → Hp → Prop) → Prop) : Prop :=
  ∀ (pins : List (Addr × Obj)) (s : Shared) (σ : St) (H : Hp) (x : V) (v : Value) (Q : Bool → Hp → Prop), Inv X pins σ H s → RelV x v → r x H Q →
    wpAny (model X.prog X.w) X.A (truthy v) (TP X pins σ Q) X.xe s
def tOp (r : R2) (ta tb : TE) : TE := fun σ H Q => ta σ H fun x H1 => tb σ H1 fun y H2 => r x y H2 Q
def rI0 (g : Int → Int → V) : R2 := fun x y H Q => ∃ i j, x = .int i ∧ y = .int j ∧ Q (g i j) H
section
variable {X : Cx} {a b c : Expr} {ta tb tc : TE} {pos : Pos}
theorem binT (ha : PE X a ta) (hb : PE X b tb) {pins : List (Addr × Obj)} {s : Shared} {σ : St} {H : Hp} {R : V → V → Hp → Prop} (I : Inv X pins σ H s)
    (h : ta σ H fun x H1 => tb σ H1 fun y H2 => R x y H2) {Q : Value → Shared → Prop} {f : Value → Value → Sem Value}
    (hf : ∀ v u s2 x y H2, Inv X pins σ H2 s2 → RelV x v → RelV y u → R x y H2 → wpAny (model X.prog X.w) X.A (f v u) Q X.xe s2) :
    wpAny (model X.prog X.w) X.A (eval a X.env) (fun v s₁ => wpAny (model X.prog X.w) X.A (eval b X.env) (fun u s₂ => wpAny (model X.prog X.w) X.A (f v u) Q X.xe s₂) X.xe s₁) X.xe s := by
  refine thn (ha pins s σ H _ I h) fun v s1 ⟨x, H1, I1, r1, q1⟩ => ?_
  refine thn (hb pins s1 σ H1 _ I1 q1) fun u s2 ⟨y, H2, I2, r2, q2⟩ => ?_
  exact hf v u s2 x y H2 I2 r1 r2 q2
theorem pe_op {op : Operator} {r : R2} (ho : OpR X (binaryOp op) r) (ha : PE X a ta) (hb : PE X b tb) : PE X (.BinOp a op b pos) (tOp r ta tb) := by
  intro pins s σ H Q I h
  exact wpAny_BinOp (binT ha hb I h fun v u s2 x y H2 I2 rx ry q => ho pins s2 σ H2 x y v u Q I2 rx ry q)
/-! ### ints -/
theorem opI0 {f : Value → Value → Sem Value} {g : Int → Int → Int}
    (rule : ∀ (i j : Int) (t u : Tok) (s : Shared) (Q : Value → Shared → Prop) (E : Value → Shared → Prop), Q (.int (g i j) s.toks) { s with toks := s.toks + 1 } → wpAny (model X.prog X.w) X.A (f (.int i t) (.int j u)) Q E s) :
    OpR X f (rI0 fun i j => .int (g i j)) := by
  intro pins s σ H x y v u Q I rx ry h
  obtain ⟨i, j, rfl, rfl, q⟩ := h
  obtain ⟨t, rfl⟩ := rx
  obtain ⟨t', rfl⟩ := ry
  exact rule i j t t' s _ _ ⟨.int (g i j), H, I.tok _, ⟨_, rfl⟩, q⟩
theorem opB0 {f : Value → Value → Sem Value} {g : Int → Int → Bool}
    (rule : ∀ (i j : Int) (t u : Tok) (s : Shared) (Q : Value → Shared → Prop) (E : Value → Shared → Prop), Q (.bool (g i j)) s → wpAny (model X.prog X.w) X.A (f (.int i t) (.int j u)) Q E s) :
    OpR X f (rI0 fun i j => .bl (g i j)) := by
  intro pins s σ H x y v u Q I rx ry h
  obtain ⟨i, j, rfl, rfl, q⟩ := h
  obtain ⟨t, rfl⟩ := rx
  obtain ⟨t', rfl⟩ := ry
  exact rule i j t t' s _ _ ⟨.bl (g i j), H, I, rfl, q⟩
theorem op_add : OpR X (binaryOp .Add) (rI0 fun i j => .int (i + j)) := opI0 fun _ _ _ _ _ _ _ q => add_int q
theorem op_sub : OpR X (binaryOp .Sub) (rI0 fun i j => .int (i - j)) := opI0 fun _ _ _ _ _ _ _ q => sub_int q
/-! ### bools among ints: n += (a < b) -/
end
/-! ### comparisons -/
/-- the scalars that == tells apart as data does -/
def scal : V → V → Bool
  | .non, .non => true | .non, .int _ => true | .int _, .non => true | .non, .bl _ => true | .bl _, .non => true | .non, .str _ => true | .str _, .non => true
  | .int _, .int _ => true | .bl _, .bl _ => true | .str _, .str _ => true | .byt _, .byt _ => true
  | .int _, .str _ => true | .str _, .int _ => true | .bl _, .str _ => true | .str _, .bl _ => true
  | _, _ => false
def rEq : R2 := fun x y H Q => scal x y = true ∧ Q (.bl (decide (x = y))) H
def rNe : R2 := fun x y H Q => scal x y = true ∧ Q (.bl (!decide (x = y))) H
theorem dec_int {i j : Int} : decide (V.int i = V.int j) = (i == j) := by
  rw [Bool.eq_iff_iff]
  simp
theorem dec_bl {i j : Bool} : decide (V.bl i = V.bl j) = (i == j) := by
  rw [Bool.eq_iff_iff]
  simp
theorem dec_str {i j : Str} : decide (V.str i = V.str j) = (i == j) := by
  rw [Bool.eq_iff_iff]
  simp
theorem dec_byt {i j : Array UInt8} : decide (V.byt i = V.byt j) = (i.toList == j.toList) := by
  rw [Bool.eq_iff_iff]
  cases i
  cases j
  simp
section
variable {X : Cx} {a b c : Expr} {ta tb tc : TE} {pos : Pos}
theorem fin_bl {pins : List (Addr × Obj)} {σ : St} {H : Hp} {s : Shared} {Q : VK} {k k' : Bool} (I : Inv X pins σ H s) (q : Q (.bl k) H) (e : k = k') : EP X pins σ Q (.bool k') s := by
  subst e
  exact ⟨.bl k, H, I, rfl, q⟩
theorem op_eq : OpR X (compareOp .Eq) rEq := by
  intro pins s σ H x y v u Q I rx ry h
  obtain ⟨hs, q⟩ := h
  cases x with
  | non =>
    cases rx
    cases y with
    | non => cases ry; exact PySem.EqNone.eq_none_none (fin_bl I q (by simp))
    | bl j => cases ry; exact PySem.EqNone.eq_none_bool (fin_bl I q (by simp))
    | int j => obtain ⟨t', rfl⟩ := ry; exact PySem.EqNone.eq_none_int (fin_bl I q (by simp))
    | str j => obtain ⟨t', rfl⟩ := ry; exact PySem.EqNone.eq_none_str (fin_bl I q (by simp))
    | _ => exact absurd (show false = true from hs) Bool.false_ne_true
  | bl i =>
    cases rx
    cases y with
    | non => cases ry; exact PySem.EqNone.eq_bool_none (fin_bl I q (by simp))
    | bl j => cases ry; exact eq_bool (fin_bl I q dec_bl)
    | str j => obtain ⟨t', rfl⟩ := ry; exact PySem.EqMixed.eq_bool_str (fin_bl I q (by simp))
    | _ => exact absurd (show false = true from hs) Bool.false_ne_true
  | int i =>
    obtain ⟨t, rfl⟩ := rx
    cases y with
    | non => cases ry; exact PySem.EqNone.eq_int_none (fin_bl I q (by simp))
    | int j => obtain ⟨t', rfl⟩ := ry; exact eq_int (fin_bl I q dec_int)
    | str j => obtain ⟨t', rfl⟩ := ry; exact PySem.EqMixed.eq_int_str (fin_bl I q (by simp))
    | _ => exact absurd (show false = true from hs) Bool.false_ne_true
  | str i =>
    obtain ⟨t, rfl⟩ := rx
    cases y with
    | non => cases ry; exact PySem.EqNone.eq_str_none (fin_bl I q (by simp))
    | bl j => cases ry; exact PySem.EqMixed.eq_str_bool (fin_bl I q (by simp))
    | int j => obtain ⟨t', rfl⟩ := ry; exact PySem.EqMixed.eq_str_int (fin_bl I q (by simp))
    | str j => obtain ⟨t', rfl⟩ := ry; exact eq_str (fin_bl I q dec_str)
    | _ => exact absurd (show false = true from hs) Bool.false_ne_true
  | byt i =>
    obtain ⟨t, rfl⟩ := rx
    cases y with
    | byt j => obtain ⟨t', rfl⟩ := ry; exact PySem.W.eq_bytes (fin_bl I q dec_byt)
    | _ => exact absurd (show false = true from hs) Bool.false_ne_true
  | _ => cases y <;> exact absurd (show false = true from hs) Bool.false_ne_true
theorem op_ne : OpR X (compareOp .NotEq) rNe := by
  intro pins s σ H x y v u Q I rx ry h
  obtain ⟨hs, q⟩ := h
  cases x with
  | non =>
    cases rx
    cases y with
    | non => cases ry; exact PySem.EqNone.ne_none_none (fin_bl I q (by simp))
    | bl j => cases ry; exact PySem.EqNone.ne_none_bool (fin_bl I q (by simp))
    | int j => obtain ⟨t', rfl⟩ := ry; exact PySem.EqNone.ne_none_int (fin_bl I q (by simp))
    | str j => obtain ⟨t', rfl⟩ := ry; exact PySem.EqNone.ne_none_str (fin_bl I q (by simp))
    | _ => exact absurd (show false = true from hs) Bool.false_ne_true
  | bl i =>
    cases rx
    cases y with
    | non => cases ry; exact PySem.EqNone.ne_bool_none (fin_bl I q (by simp))
    | bl j => cases ry; exact ne_bool (fin_bl I q (congrArg not dec_bl))
    | str j => obtain ⟨t', rfl⟩ := ry; exact PySem.EqMixed.ne_bool_str (fin_bl I q (by simp))
    | _ => exact absurd (show false = true from hs) Bool.false_ne_true
  | int i =>
    obtain ⟨t, rfl⟩ := rx
    cases y with
    | non => cases ry; exact PySem.EqNone.ne_int_none (fin_bl I q (by simp))
    | int j => obtain ⟨t', rfl⟩ := ry; exact ne_int (fin_bl I q (congrArg not dec_int))
    | str j => obtain ⟨t', rfl⟩ := ry; exact PySem.EqMixed.ne_int_str (fin_bl I q (by simp))
    | _ => exact absurd (show false = true from hs) Bool.false_ne_true
  | str i =>
    obtain ⟨t, rfl⟩ := rx
    cases y with
    | non => cases ry; exact PySem.EqNone.ne_str_none (fin_bl I q (by simp))
    | bl j => cases ry; exact PySem.EqMixed.ne_str_bool (fin_bl I q (by simp))
    | int j => obtain ⟨t', rfl⟩ := ry; exact PySem.EqMixed.ne_str_int (fin_bl I q (by simp))
    | str j => obtain ⟨t', rfl⟩ := ry; exact ne_str (fin_bl I q (congrArg not dec_str))
    | _ => exact absurd (show false = true from hs) Bool.false_ne_true
  | byt i =>
    obtain ⟨t, rfl⟩ := rx
    cases y with
    | byt j => obtain ⟨t', rfl⟩ := ry; exact PySem.W.ne_bytes (fin_bl I q (congrArg not dec_byt))
    | _ => exact absurd (show false = true from hs) Bool.false_ne_true
  | _ => cases y <;> exact absurd (show false = true from hs) Bool.false_ne_true
theorem op_lt : OpR X (compareOp .Lt) (rI0 fun i j => .bl (decide (i < j))) := opB0 fun _ _ _ _ _ _ _ q => lt_int q
theorem op_le : OpR X (compareOp .LtE) (rI0 fun i j => .bl (decide (i ≤ j))) := opB0 fun _ _ _ _ _ _ _ q => le_int q
theorem op_gt : OpR X (compareOp .Gt) (rI0 fun i j => .bl (decide (j < i))) := opB0 fun _ _ _ _ _ _ _ q => gt_int q
theorem op_ge : OpR X (compareOp .GtE) (rI0 fun i j => .bl (decide (j ≤ i))) := opB0 fun _ _ _ _ _ _ _ q => ge_int q
theorem nomark (b : Expr) {op : CmpOp} (h : op ≠ .In := by decide) (h2 : op ≠ .NotIn := by decide) : behindInMarks op b = false := by
  have e1 : (op == CmpOp.In) = false := by cases op <;> first | rfl | exact absurd rfl h
  have e2 : (op == CmpOp.NotIn) = false := by cases op <;> first | rfl | exact absurd rfl h2
  cases b <;> simp [behindInMarks, e1, e2]
/-- a comparison as a value; hm: nomark b, or (for in, not in) by with_unfolding_all rfl -/
theorem pe_cmpR {op : CmpOp} {r : R2} (ho : OpR X (compareOp op) r) (ha : PE X a ta) (hb : PE X b tb) (hm : behindInMarks op b = false) : PE X (.Compare a [op] [b] pos) (tOp r ta tb) := by
  intro pins s σ H Q I h
  exact wpAny_Compare1 (binT ha hb I h fun v u s2 x y H2 I2 rx ry q => ho pins s2 σ H2 x y v u Q I2 rx ry q) hm
/-- a reading of a value as a test -/
def tTest (t : TE) : TT := fun σ H Q => t σ H fun x H' => ∃ k, x = .bl k ∧ Q k H'
theorem pt_cmpR {op : CmpOp} {r : R2} (ho : OpR X (compareOp op) r) (ha : PE X a ta) (hb : PE X b tb) (hm : behindInMarks op b = false) : PT X (.Compare a [op] [b] pos) (tTest (tOp r ta tb)) := by
  intro pins s σ H Q I h
  refine wpAny_isTrue_Compare1 (thn (ha pins s σ H _ I h) fun v s1 ⟨x, H1, I1, r1, q1⟩ => thn (hb pins s1 σ H1 _ I1 q1) fun u s2 ⟨y, H2, I2, r2, q2⟩ =>
    thn (ho pins s2 σ H2 x y v u _ I2 r1 r2 q2) fun c s3 ⟨z, H3, I3, r3, k, e, q3⟩ => ?_) hm
  subst e
  cases r3
  exact wpAny_truthy_bool ⟨H3, I3, q3⟩
/-- a op1 b op2 c -/
def tChain (r r' : R2) (ta tb tc : TE) : TE := fun σ H Q => ta σ H fun x H1 => tb σ H1 fun y H2 => r x y H2 fun z H3 => ∃ k, z = .bl k ∧
  (if k = true then tc σ H3 fun w' H4 => r' y w' H4 Q else Q (.bl false) H3)
theorem pt_chain {op op' : CmpOp} {r r' : R2} (ho : OpR X (compareOp op) r) (ho' : OpR X (compareOp op') r') (ha : PE X a ta) (hb : PE X b tb) (hc : PE X c tc)
    (hm : lastMarks [op, op'] [b, c] = false := by with_unfolding_all rfl) : PT X (.Compare a [op, op'] [b, c] pos) (tTest (tChain r r' ta tb tc)) := by
  intro pins s σ H Q I h
  refine isTrue_chain (thn (ha pins s σ H _ I h) fun v s1 ⟨x, H1, I1, r1, q1⟩ => test_link (thn (hb pins s1 σ H1 _ I1 q1) fun u s2 ⟨y, H2, I2, r2, q2⟩ =>
    thn (ho pins s2 σ H2 x y v u _ I2 r1 r2 q2) fun d s3 ⟨z, H3, I3, r3, k, e, q3⟩ => ?_)) hm
  subst e
  cases r3
  refine wpAny_truthy_bool ?_
  cases k with
  | false =>
    obtain ⟨k', e', q'⟩ := q3
    cases e'
    exact ite_ff ⟨H3, I3, q'⟩
  | true =>
    refine ite_tt (test_last (thn (hc pins s3 σ H3 _ I3 q3) fun w' s4 ⟨z', H4, I4, r4, q4⟩ => thn (ho' pins s4 σ H4 y z' u w' _ I4 r2 r4 q4) fun d' s5 ⟨z2, H5, I5, r5, k2, e2, q5⟩ => ?_))
    subst e2
    cases r5
    exact wpAny_truthy_bool ⟨H5, I5, q5⟩
/-! ### truth -/
/-- a value's truth by the abstract heap -/
def TruV (K : PySem.W.Frag) (x : V) (H : Hp) (k : Bool) : Prop :=
  match x with
  | .non => k = false
  | .bl b => k = b
  | .int i => k = (i != 0)
  | .str y => y.length ≤ sizeLine ∧ k = ((y.length : Int) != 0)
  | .byt y => y.size ≤ sizeLine ∧ k = ((y.size : Int) != 0)
  | .ref p => (∃ xs, SqL K H p xs ∧ k = !xs.isEmpty) ∨ (∃ xs, SqT K H p xs ∧ k = !xs.isEmpty) ∨ ∃ kvs, H p = some (.dK kvs) ∧ k = !kvs.isEmpty
  | _ => False
theorem isEmpty_kv {κ : Type} {kvs : List (κ × V)} {vs : List (κ × Value)} (r : KV kvs vs) : (!vs.isEmpty) = !kvs.isEmpty := by
  cases r <;> rfl
theorem isEmpty_of {xs : List V} {its : List Value} (r : Vals xs its) : (!its.toArray.isEmpty) = !xs.isEmpty := by
  cases r <;> simp
theorem line63 : (sizeLine : Nat) < 2 ^ 63 := by rw [sizeLine_eq]; decide
theorem tru_ok : TruR X (fun x H Q => ∃ k, TruV X.K x H k ∧ Q k H) := by
  intro pins s σ H x v Q I rx h
  obtain ⟨k, e, q⟩ := h
  have hl := line63
  have hs : sizeLine = 16777216 := sizeLine_eq
  cases x with
  | non =>
    cases rx
    have e' : k = false := e
    subst e'
    exact truthy_none ⟨H, I, q⟩
  | bl b =>
    cases rx
    have e' : k = b := e
    subst e'
    exact wpAny_truthy_bool ⟨H, I, q⟩
  | int i =>
    obtain ⟨t, rfl⟩ := rx
    have e' : k = (i != 0) := e
    subst e'
    exact PySem.P.truthy_int ⟨H, I, q⟩
  | str y =>
    obtain ⟨t, rfl⟩ := rx
    obtain ⟨hy, e'⟩ : y.length ≤ sizeLine ∧ k = ((y.length : Int) != 0) := e
    subst e'
    exact PySem.P.truthy_str (by omega) ⟨H, I.tok _, q⟩
  | byt y =>
    obtain ⟨t, rfl⟩ := rx
    obtain ⟨hy, e'⟩ : y.size ≤ sizeLine ∧ k = ((y.size : Int) != 0) := e
    subst e'
    exact PySem.W.truthy_bytes (by omega) ⟨H, I.tok _, q⟩
  | ref p =>
    cases rx
    have e' : (∃ xs, SqL X.K H p xs ∧ k = !xs.isEmpty) ∨ (∃ xs, SqT X.K H p xs ∧ k = !xs.isEmpty) ∨ ∃ kvs, H p = some (.dK kvs) ∧ k = !kvs.isEmpty := e
    rcases e' with ⟨xs, hx, e'⟩ | ⟨xs, hx, e'⟩ | ⟨kvs, hx, e'⟩
    · subst e'
      obtain ⟨its, r, pl, hz⟩ := I.list hx
      have hlen := r.length
      exact wpAny_truthy_list pl.isList (by simp only [List.size_toArray]; omega) ⟨H, I.tok _, by rw [isEmpty_of r]; exact q⟩
    · subst e'
      obtain ⟨its, r, pl, hz⟩ := I.tuple hx
      have hlen := r.length
      exact truthy_tuple pl (by simp only [List.size_toArray]; omega) ⟨H, I.tok _, by rw [isEmpty_of r]; exact q⟩
    · subst e'
      obtain ⟨hz, hS, vs, r, m⟩ : kvs.length ≤ sizeLine ∧ (p == sysModules) = false ∧ ∃ vs, KV kvs vs ∧ s.heap.DictOf (mixKind X.prog X.w) p vs := I.hok p _ hx
      have hlen : kvs.length = vs.length := Paired.length r
      exact wpAny_truthy_dict hS m (by omega) ⟨H, I.tok _, by rw [isEmpty_kv r]; exact q⟩
  | _ => exact (show False from e).elim
/-- any expression whose test is its value's truth (a name, a call, a subscript, a field ..: he by fun _ => rfl) -/
theorem pt_truth (ha : PE X a ta) (he : ∀ whole, isTrue a X.env whole = (do let v ← whole; standAt a.pos; holding [v] (truthy v))) :
    PT X a (fun σ H Q => ta σ H fun x H' => ∃ k, TruV X.K x H' k ∧ Q k H') := by
  intro pins s σ H Q I h
  exact isTrue_plain (thn (ha pins s σ H _ I h) fun v s1 ⟨x, H1, I1, r1, q1⟩ => tru_ok pins s1 σ H1 x v Q I1 r1 q1) (he _)
/-! ### strs and bytes -/
/-! ### scalar builtins, by CallR -/
theorem vals1 {x : V} {us : List Value} (r : Vals [x] us) : ∃ u, us = [u] ∧ RelV x u := by
  cases r with
  | cons r1 r2 => cases r2; exact ⟨_, rfl, r1⟩
theorem vals2 {x y : V} {us : List Value} (r : Vals [x, y] us) : ∃ u w', us = [u, w'] ∧ RelV x u ∧ RelV y w' := by
  cases r with
  | cons r1 r2 =>
    cases r2 with
    | cons r3 r4 => cases r4; exact ⟨_, _, rfl, r1, r3⟩
theorem call_max2 (hc : X.calm = true) : CallR X (.builtin "max") (fun xs H Q => ∃ i j, xs = [.int i, .int j] ∧ Q (.int (if j > i then j else i)) H) := by
  intro pins s σ H xs us Q I r h
  obtain ⟨i, j, rfl, q⟩ := h
  obtain ⟨u, w', rfl, ⟨t, rfl⟩, ⟨t', rfl⟩⟩ := vals2 r
  refine max_two_ints (I.ok.hd hc) fun h' tk k => ⟨_, H, I.kept k, ?_, q⟩
  by_cases hj : j > i
  · rw [if_pos hj, if_pos hj]; exact ⟨_, rfl⟩
  · rw [if_neg hj, if_neg hj]; exact ⟨_, rfl⟩
theorem call_min2 (hc : X.calm = true) : CallR X (.builtin "min") (fun xs H Q => ∃ i j, xs = [.int i, .int j] ∧ Q (.int (if j < i then j else i)) H) := by
  intro pins s σ H xs us Q I r h
  obtain ⟨i, j, rfl, q⟩ := h
  obtain ⟨u, w', rfl, ⟨t, rfl⟩, ⟨t', rfl⟩⟩ := vals2 r
  refine min_two_ints (I.ok.hd hc) fun h' tk k => ⟨_, H, I.kept k, ?_, q⟩
  by_cases hj : j < i
  · rw [if_pos hj, if_pos hj]; exact ⟨_, rfl⟩
  · rw [if_neg hj, if_neg hj]; exact ⟨_, rfl⟩
end
end L2
namespace L2
open PySem PySem.Spec PyProof.Rows
/-! ### an instance, its attributes a map -/
structure ObjM (h : Heap) (x dx C : Addr) (mA : Str → Option Value) : Prop where
  obj : h.get? x = some (PySem.W.instObj C dx)
  ns : h.Ns1 dx mA
  ne : dx ≠ x
theorem lookIn_ns {h : Heap} {dx : Addr} {mA : Str → Option Value} (n : h.Ns1 dx mA) : ∃ od, h.get? dx = some od ∧ ∀ name, PySem.W.lookIn name od = some (mA name) := by
  obtain ⟨o, es, ep, ho, hd, hk, _, hm⟩ := n
  refine ⟨o, ho, fun name => ?_⟩
  have e := hm name
  unfold nsFind findBy at e
  rw [← Array.find?_toList] at e
  unfold PySem.W.lookIn
  rw [hd]
  dsimp only
  split
  · rename_i y q
    rw [q] at e
    exact congrArg some e
  · rename_i q
    rw [q] at e
    have a : es.toList.any (·.refKey) = false := by
      rw [List.any_eq_false]
      intro y hy
      obtain ⟨z, t, hkey⟩ := hk y (Array.mem_toList_iff.mp hy)
      simp [DictEntry.refKey, hkey]
    have a' : ¬ es.toList.any (·.refKey) = true := by rw [a]; exact Bool.false_ne_true
    rw [if_neg a']
    exact congrArg some e
theorem ObjM.look {h : Heap} {x dx C : Addr} {mA : Str → Option Value} (I : ObjM h x dx C mA) : ∃ od, PySem.W.InstAt h x (PySem.W.instObj C dx) C (some od) ∧ ∀ name, PySem.W.lookIn name od = some (mA name) :=
  let ⟨od, ho, hl⟩ := lookIn_ns I.ns
  ⟨od, ⟨I.obj, rfl, rfl, ho⟩, hl⟩
section
variable {prog : Program} {w : World} {A : Around} {E : Value → Shared → Prop} {s : Shared} {K : PySem.W.Frag} {x dx C f : Addr} {mA : Str → Option Value} {name : Str} {v : Value}
theorem get_map {expr : Bool} {Q : Value → Shared → Prop} (X : K.In s.heap) (I : ObjM s.heap x dx C mA) (hg : PySem.W.plainGet K C name = true) (hh : PySem.W.hasDictIn K C = true)
    (ha : PySem.W.findIn K (.ref C) name = some none) (hv : mA name = some v) (hv' : PySem.W.handedIn v = true) (h : Q v { s with toks := s.toks + 1 }) :
    wpAny (model prog w) A (getAttr (.ref x) name expr) Q E s := by
  obtain ⟨od, J, hl⟩ := I.look
  exact PySem.W.get_value X J (PySem.W.plainGet_of hg).1 (PySem.W.findObj_own hh ha rfl (by rw [hl, hv])) hv' h
theorem get_meth {pl : Sem Bool} {Q : Value × List Value → Shared → Prop} (X : K.In s.heap) (I : ObjM s.heap x dx C mA) (hg : PySem.W.plainGet K C name = true)
    (hf : PySem.W.findIn K (.ref C) name = some (some (.ref f))) (ht : PySem.W.isFn K (.ref f) = true) (hv : mA name = none) (h : Q (.ref f, [.ref x]) s) :
    wpAny (model prog w) A (getMethod (.ref x) name pl) Q E s := by
  obtain ⟨od, J, hl⟩ := I.look
  exact PySem.W.method_fn X J (PySem.W.plainGet_of hg).1 (PySem.W.plainGet_of hg).2 hf (beq_iff_eq.mp ht) (by show (PySem.W.lookIn name od).map (·.isSome) = some false; rw [hl, hv]; rfl) h
theorem set_map {ns : List Str} {Q : Unit → Shared → Prop} (X : K.In s.heap) (I : ObjM s.heap x dx C mA)
    (hs : PySem.W.findIn K (.ref C) "__setattr__" = some (some (.builtin "object.__setattr__"))) (hp : PySem.W.plainOver K C = true) (ht : PySem.W.takerIn K C name = some none) (hh : PySem.W.hasDictIn K C = true)
    (hw : PySem.Within mA ns) (hsz : ns.length ≤ sizeLine)
    (h : ∀ h', ObjM h' x dx C (fun y => if y = name then some v else mA y) → Heap.SameBut dx s.heap h' → Q () { s with heap := h', toks := s.toks + 2 }) :
    wpAny (model prog w) A (setAttr (.ref x) name v) Q E s := by
  obtain ⟨od, J, hl⟩ := I.look
  refine PySem.W.set_plain X J hs (PySem.W.osa_open (s := { s with toks := s.toks + 1 }) (r := none) X J hp ht fun b => ?_)
  obtain ⟨cd, hc, hd'⟩ := PySem.W.any_some hh
  have hx : s.heap.get? x = some ⟨.ref C, some dx, .plain, #[]⟩ := I.obj
  refine wpAny_bind (wpAny_pure (wpAny_bind (wpAny_bind (wpAny_loadPart hx (wpAny_bind (PySem.W.Looks.here (s := { s with toks := s.toks + 1 }) (PySem.W.looks_clsIn X hc) ?_))))))
  rw [hd']
  refine wpAny_pure (a := some dx) (wpAny_bind (wpAny_pure (wpAny_bind ?_)))
  refine wpAny_nsSet1 (s := { s with toks := s.toks + 1 }) I.ns fun h' hn2 hs2 => ?_
  obtain ⟨oD, esD, epD, hoD, hdD, hcD⟩ := hn2.count (PySem.Within.cons name v hw)
  refine wpAny_bind (wpAny_lookBehind hoD (by rw [hdD]; exact pastItsLine_dict (Nat.le_trans hcD (by rw [List.length_cons]; omega))) ?_)
  exact wpAny_pure (h _ ⟨(hs2.2 _ (Ne.symm I.ne)).trans I.obj, hn2, I.ne⟩ hs2)
/-- C(..): the dict at the heap's end, the instance behind it; then its __init__ -/
theorem make_map {R : Result → Shared → Prop} {vs : List Value} {kw : List (Str × Value)} (X : K.In s.heap) (hm : PySem.W.makesIn K C = true)
    (hi : PySem.W.findIn K (.ref C) "__init__" = some (some (.ref f))) (hf : PySem.W.typeIn K (.ref f) = some (.type "function"))
    (h : codeAny (model prog w) (A.under (.builtin "type.__call__" ⟨.ref C :: vs, kw⟩)) (.call (.ref f) ⟨.ref (s.heap.objs.size + 1) :: vs, kw⟩) (PySem.W.InitBack (s.heap.objs.size + 1) R)
      { s with heap := (s.heap.push PySem.W.emptyDict).push (PySem.W.instObj C s.heap.objs.size) }) :
    codeAny (model prog w) A (.call (.ref C) ⟨vs, kw⟩) R s := by
  obtain ⟨hh, g, d, t, os⟩ := s
  exact PySem.W.make_core (PySem.W.makes_of X hm) (PySem.W.looks_findIn X hi) (fun self => PySem.W.bind_fn X self hf) (.inl rfl) h
end
/-! ### the attributes as a list of pairs -/
def putF (f : Str) (v : V) : List (Str × V) → List (Str × V)
  | [] => [(f, v)]
  | (g, x) :: r => if g = f then (g, v) :: r else (g, x) :: putF f v r
theorem lookup_putF (f g : Str) (v : V) : ∀ fs : List (Str × V), (putF f v fs).lookup g = if g = f then some v else fs.lookup g
  | [] => by
    show List.lookup g [(f, v)] = _
    by_cases h : g = f
    · have hb : (g == f) = true := beq_iff_eq.mpr h
      simp only [List.lookup, hb, if_pos h]
    · have hb : (g == f) = false := beq_eq_false_iff_ne.mpr h
      simp only [List.lookup, hb, if_neg h]
  | (k, x) :: r => by
    have ih := lookup_putF f g v r
    rw [show putF f v ((k, x) :: r) = (if k = f then (k, v) :: r else (k, x) :: putF f v r) from rfl]
    by_cases hk : k = f
    · rw [if_pos hk]
      by_cases h : g = k
      · have hb : (g == k) = true := beq_iff_eq.mpr h
        simp only [List.lookup, hb, if_pos (h.trans hk)]
      · have hb : (g == k) = false := beq_eq_false_iff_ne.mpr h
        simp only [List.lookup, hb, if_neg (fun e : g = f => h (e.trans hk.symm))]
    · rw [if_neg hk]
      by_cases h : g = k
      · have hb : (g == k) = true := beq_iff_eq.mpr h
        simp only [List.lookup, hb, if_neg (fun e : g = f => hk (h.symm.trans e))]
      · have hb : (g == k) = false := beq_eq_false_iff_ne.mpr h
        simp only [List.lookup, hb]
        exact ih
theorem keys_putF (f : Str) (v : V) : ∀ fs : List (Str × V), f ∈ (putF f v fs).map (·.1) ∧ ∀ g, g ∈ fs.map (·.1) → g ∈ (putF f v fs).map (·.1)
  | [] => ⟨by simp [putF], fun g h => by simp at h⟩
  | (k, x) :: r => by
    obtain ⟨i1, i2⟩ := keys_putF f v r
    rw [show putF f v ((k, x) :: r) = (if k = f then (k, v) :: r else (k, x) :: putF f v r) from rfl]
    by_cases hk : k = f
    · rw [if_pos hk]
      subst hk
      exact ⟨by simp, fun g h => by simpa using h⟩
    · rw [if_neg hk]
      refine ⟨?_, fun g h => ?_⟩
      · rw [List.map_cons]
        exact List.mem_cons_of_mem _ i1
      · rw [List.map_cons] at h ⊢
        rcases List.mem_cons.mp h with e | e
        · exact List.mem_cons.mpr (.inl e)
        · exact List.mem_cons_of_mem _ (i2 g e)
theorem length_putF (f : Str) (v : V) : ∀ fs : List (Str × V), (putF f v fs).length ≤ fs.length + 1
  | [] => by simp [putF]
  | (k, x) :: r => by
    have ih := length_putF f v r
    rw [show putF f v ((k, x) :: r) = (if k = f then (k, v) :: r else (k, x) :: putF f v r) from rfl]
    by_cases hk : k = f
    · rw [if_pos hk, List.length_cons, List.length_cons]; omega
    · rw [if_neg hk, List.length_cons, List.length_cons]; omega
theorem RelO.some_of {v : V} {o : Option Value} (r : RelO (some v) o) : ∃ u, o = some u ∧ RelV v u := by
  cases o with
  | none => exact (show False from r).elim
  | some u => exact ⟨u, rfl, r⟩
theorem RelO.none_of {o : Option Value} (r : RelO none o) : o = none := by
  cases o with
  | none => rfl
  | some u => exact (show False from r).elim
theorem handed_of {v : V} {u : Value} (r : RelV v u) : PySem.W.handedIn u = true := by
  cases v with
  | non => cases (show u = Value.none from r); rfl
  | bl b => cases (show u = Value.bool b from r); rfl
  | int i => obtain ⟨t, e⟩ := (show ∃ t, u = Value.int i t from r); cases e; rfl
  | str x => obtain ⟨t, e⟩ := (show ∃ t, u = Value.str x t from r); cases e; rfl
  | byt b => obtain ⟨t, e⟩ := (show ∃ t, u = Value.bytes b t from r); cases e; rfl
  | flt b => obtain ⟨t, e⟩ := (show ∃ t, u = Value.float b t from r); cases e; rfl
  | ref a => cases (show u = Value.ref a from r); rfl
  | ty n => cases (show u = Value.type n from r); rfl
section
variable {P : Program} {w : World} {H H' : Hp} {h h' : Heap} {a C dx : Addr} {fs fs' : List (Str × V)}
theorem ins_get (hok : HOk P w H h) (e : H a = some (.ins C dx fs)) : ∃ mA, ObjM h a dx C mA ∧ (∀ f, RelO (fs.lookup f) (mA f)) ∧ PySem.Within mA (fs.map (·.1)) ∧ fs.length ≤ 1000 ∧ H dx = some (.own a) := by
  obtain ⟨d, z, ne, ob, mA, n, r, q⟩ := (show ObjOk P w H h a (.ins C dx fs) from hok a _ e)
  exact ⟨mA, ⟨ob, n, ne⟩, r, q, z, d⟩
end
/-! ### what of the text a class must have -/
structure Cls (K : PySem.W.Frag) (C : Addr) : Prop where
  pg : PySem.W.plainGet K C Str.empty = true
  hd : PySem.W.hasDictIn K C = true
  po : PySem.W.plainOver K C = true
  sa : PySem.W.findIn K (.ref C) "__setattr__" = some (some (.builtin "object.__setattr__"))
theorem Cls.get {K : PySem.W.Frag} {C : Addr} (c : Cls K C) (f : Str) : PySem.W.plainGet K C f = true := c.pg
/-- no class of it has the name -/
def NoAttr (K : PySem.W.Frag) (C : Addr) (f : Str) : Prop := PySem.W.findIn K (.ref C) f = some none
theorem NoAttr.taker {K : PySem.W.Frag} {C : Addr} {f : Str} (n : NoAttr K C f) : PySem.W.takerIn K C f = some none := by
  unfold PySem.W.takerIn
  rw [show PySem.W.findIn K (.ref C) f = some none from n]
  rfl
/-- a method: a plain def of the class or of one above it -/
structure Meth (K : PySem.W.Frag) (C : Addr) (m : Str) (f : Addr) : Prop where
  at_ : PySem.W.findIn K (.ref C) m = some (some (.ref f))
  fn : PySem.W.isFn K (.ref f) = true
  kp : PySem.W.keepIn K (.ref f) = true
section
variable {X : Cx} {pins : List (Addr × Obj)} {σ : St} {H : Hp} {s : Shared} {a C dx : Addr} {fs : List (Str × V)} {f : Str} {v : V} {A : Around} {E : Value → Shared → Prop}
theorem getattr_ok {b : Bool} {Q : Value → Shared → Prop} (I : Inv X pins σ H s) (e : H a = some (.ins C dx fs)) (c : Cls X.K C) (n : NoAttr X.K C f) (l : fs.lookup f = some v)
    (h : ∀ u s', Inv X pins σ H s' → RelV v u → Q u s') : wpAny (model X.prog X.w) A (getAttr (.ref a) f b) Q E s := by
  obtain ⟨mA, O, r, _, _, _⟩ := ins_get I.hok e
  obtain ⟨u, hu, ru⟩ := RelO.some_of (v := v) (o := mA f) (by rw [← l]; exact r f)
  exact get_map I.kIn O (c.get f) c.hd n hu (handed_of ru) (h u _ (I.tok _) ru)
theorem getmeth_ok {m : Str} {g : Addr} {pl : Sem Bool} {Q : Value × List Value → Shared → Prop} (I : Inv X pins σ H s) (e : H a = some (.ins C dx fs)) (c : Cls X.K C) (k : Meth X.K C m g) (l : fs.lookup m = none)
    (h : Q (.ref g, [.ref a]) s) : wpAny (model X.prog X.w) A (getMethod (.ref a) m pl) Q E s := by
  obtain ⟨mA, O, r, _, _, _⟩ := ins_get I.hok e
  have hn : mA m = none := RelO.none_of (by rw [← l]; exact r m)
  exact get_meth I.kIn O (c.get m) k.at_ k.fn hn h
theorem setattr_ok {y : V} {u : Value} {Q : Unit → Shared → Prop} (I : Inv X pins σ H s) (e : H a = some (.ins C dx fs)) (c : Cls X.K C) (n : NoAttr X.K C f) (hl : fs.length < 1000) (ry : RelV y u)
    (h : ∀ s', Inv X pins σ (upd H a (.ins C dx (putF f y fs))) s' → Q () s') : wpAny (model X.prog X.w) A (setAttr (.ref a) f u) Q E s := by
  obtain ⟨mA, O, r, wi, _, ho⟩ := ins_get I.hok e
  have hz : (fs.map (·.1)).length ≤ sizeLine := by rw [List.length_map, sizeLine_eq]; omega
  refine set_map I.kIn O c.sa c.po n.taker c.hd wi hz fun h' O' sb => h _ ?_
  have hd : ∃ o, h'.get? dx = some o := let ⟨o, _, _, e', _⟩ := O'.ns; ⟨o, e'⟩
  refine I.write (x := a) (e := dx) (by rw [e]; exact True.intro) (.inr ho) (fun b q hb z => (sb.2 b hb).trans z) hd ?_
  refine ⟨by rw [upd_ne O.ne]; exact ho, ?_, O.ne, O'.obj, _, O'.ns, fun g => ?_, fun g hg => ?_⟩
  · have := length_putF f y fs; omega
  · show RelO ((putF f y fs).lookup g) (if g = f then some u else mA g)
    rw [lookup_putF]
    by_cases q : g = f
    · rw [if_pos q, if_pos q]; exact ry
    · rw [if_neg q, if_neg q]; exact r g
  · by_cases q : g = f
    · rw [q]; exact (keys_putF f y fs).1
    · refine (keys_putF f y fs).2 g (wi g fun z => hg ?_)
      show (if g = f then some u else mA g) = none
      rw [if_neg q]; exact z
/-- a new instance, tracked, without attributes -/
theorem Inv.made (I : Inv X pins σ H s) : Inv X pins σ (upd (upd H s.heap.objs.size (.own (s.heap.objs.size + 1))) (s.heap.objs.size + 1) (.ins C s.heap.objs.size []))
    { s with heap := (s.heap.push PySem.W.emptyDict).push (PySem.W.instObj C s.heap.objs.size) } := by
  have e1 : (s.heap.push PySem.W.emptyDict).get? s.heap.objs.size = some PySem.W.emptyDict := Heap.get?_push_size s.heap rfl
  have e2 : ((s.heap.push PySem.W.emptyDict).push (PySem.W.instObj C s.heap.objs.size)).get? (s.heap.objs.size + 1) = some (PySem.W.instObj C s.heap.objs.size) := by
    have := Heap.get?_push_size (s.heap.push PySem.W.emptyDict) (o := PySem.W.instObj C s.heap.objs.size) rfl
    rwa [Heap.size_push] at this
  have e3 : (s.heap.push PySem.W.emptyDict).Ns s.heap.objs.size (fun _ => none) := ⟨PySem.W.emptyDict, #[], _, e1, rfl, (fun e he => absurd he (by simp)), fun _ => rfl⟩
  have I1 := I.laid (a := s.heap.objs.size) (o := .own (s.heap.objs.size + 1)) (h' := s.heap.push PySem.W.emptyDict) (t' := s.toks) (fun b u q => Heap.get?_push_of_some _ q) (Nat.le_refl _) ⟨_, e1⟩
  refine I1.laid (a := s.heap.objs.size + 1) (o := .ins C s.heap.objs.size []) (t' := s.toks) (fun b u q => Heap.get?_push_of_some _ q) (Nat.le_of_eq (Heap.size_push _ _)) ?_
  have ne : s.heap.objs.size ≠ s.heap.objs.size + 1 := Nat.ne_of_lt (Nat.lt_succ_self _)
  refine ⟨by rw [upd_ne ne, upd_same], Nat.zero_le _, ne, e2, fun _ => none, (Heap.Ns1.of_empty e3).at fun o q => Heap.get?_push_of_some _ q, fun _ => True.intro, fun y hy => absurd rfl hy⟩
/-- e.f where nothing but the object is asked: through attributeBase (super) and the last hold -/
theorem attr_of {prog : Program} {w : World} {env : Env} {e : Expr} {f : Str} {pos : Pos} {s : Shared} {Q : Value → Shared → Prop} (hb : attributeBase e f env (eval e env) = eval e env)
    (h : wpAny (model prog w) A (eval e env) (fun o s₁ => wpAny (model prog w) A (getAttr o f true) Q E s₁) E s) : wpAny (model prog w) A (eval (.Attribute e f pos) env) Q E s :=
  Attribute_any_ h (by rw [arm_eval_Attribute, hb])
end
/-! ### readings and rules -/
/-- e.f, an attribute of the instance -/
def tFld (K : PySem.W.Frag) (ta : TE) (f : Str) : TE := fun σ H Q => ta σ H fun x H1 => ∃ a C dx fs v, x = .ref a ∧ H1 a = some (.ins C dx fs) ∧ Cls K C ∧ NoAttr K C f ∧ fs.lookup f = some v ∧ Q v H1
/-- e.f = value -/
def sFld (K : PySem.W.Frag) (ta tv : TE) (f : Str) : TS := fun D σ H => tv σ H fun y H1 => ta σ H1 fun x H2 => ∃ a C dx fs, x = .ref a ∧ H2 a = some (.ins C dx fs) ∧ Cls K C ∧ NoAttr K C f ∧ fs.length < 1000 ∧
  D.nx σ (upd H2 a (.ins C dx (putF f y fs)))
/-- an augmented operator on two values -/
def InOp (X : Cx) (op : Operator) (rd : V → V → Hp → VK → Prop) : Prop :=
  ∀ (pins : List (Addr × Obj)) (s : Shared) (σ : St) (H : Hp) (x y : V) (u v : Value) (Q : VK), Inv X pins σ H s → RelV x u → RelV y v → rd x y H Q → wpAny (model X.prog X.w) X.A (inplaceOp op u v) (EP X pins σ Q) X.xe s
/-- e.f op= value -/
def sFldAug (K : PySem.W.Frag) (ta tv : TE) (rd : V → V → Hp → VK → Prop) (f : Str) : TS := fun D σ H => ta σ H fun x H1 => ∃ a C dx fs v, x = .ref a ∧ H1 a = some (.ins C dx fs) ∧ Cls K C ∧ NoAttr K C f ∧ fs.lookup f = some v ∧
  tv σ H1 fun y H2 => rd v y H2 fun z H3 => ∃ dx' fs', H3 a = some (.ins C dx' fs') ∧ fs'.length < 1000 ∧ D.nx σ (upd H3 a (.ins C dx' (putF f z fs')))
section
variable {X : Cx} {o e value : Expr} {f : Str} {pos pos' tpos : Pos} {ta tv : TE}
theorem pe_fld (he : PE X e ta) (hb : attributeBase e f X.env (eval e X.env) = eval e X.env) : PE X (.Attribute e f pos) (tFld X.K ta f) := by
  intro pins s σ H Q I h
  refine attr_of hb (thn (he pins s σ H _ I h) fun u s1 ⟨x, H1, I1, rx, a, C, dx, fs, v, ex, ea, c, n, l, q⟩ => ?_)
  subst ex
  obtain rfl : u = Value.ref a := rx
  exact getattr_ok I1 ea c n l fun u' s2 I2 ru => ⟨v, H1, I2, ru, q⟩
theorem ps_fld (ha : PE X o ta) (hv : PE X value tv) (hs : swapsWith value (some (.Attribute o f pos')) pos.line X.env = pure false) : PS X (.Assign [.Attribute o f pos'] value pos) (sFld X.K ta tv f) := by
  intro pins s σ H D I h
  refine plainObj_wpAny_Assign_Attribute (thn (hv pins s σ H _ I h) fun u s1 ⟨y, H1, I1, ry, q⟩ => thn (ha pins s1 σ H1 _ I1 q) fun ov s2 ⟨x, H2, I2, rx, a, C, dx, fs, ex, ea, c, n, l, q2⟩ => ?_) hs
  subst ex
  obtain rfl : ov = Value.ref a := rx
  exact setattr_ok I2 ea c n l ry fun s3 I3 => ⟨σ, _, I3, q2⟩
theorem ps_fldaug {op : Operator} {rd : V → V → Hp → VK → Prop} (ha : PE X o ta) (hv : PE X value tv) (hop : InOp X op rd) : PS X (.AugAssign (.Attribute o f tpos) op value pos) (sFldAug X.K ta tv rd f) := by
  intro pins s σ H D I h
  refine wpAny_AugAssign_AttributeAny (thn (ha pins s σ H _ I h) fun ov s1 ⟨x, H1, I1, rx, a, C, dx, fs, v, ex, ea, c, n, l, q⟩ => ?_)
  subst ex
  obtain rfl : ov = Value.ref a := rx
  refine getattr_ok I1 ea c n l fun u s2 I2 ru => thn (hv pins s2 σ H1 _ I2 q) fun w3 s3 ⟨y, H2, I3, ry, q3⟩ => thn (hop pins s3 σ H2 v y u w3 _ I3 ru ry q3) fun w4 s4 ⟨z, H3, I4, rz, dx', fs', ea', l', q4⟩ => ?_
  exact setattr_ok I4 ea' c n l' rz fun s5 I5 => ⟨σ, _, I5, q4⟩
def rAdd : V → V → Hp → VK → Prop := fun x y H Q => ∃ i j, x = .int i ∧ y = .int j ∧ Q (.int (i + j)) H
theorem in_add : InOp X .Add rAdd := by
  rintro pins s σ H x y u v Q I rx ry ⟨i, j, rfl, rfl, q⟩
  obtain ⟨t, rfl⟩ := (show ∃ t, u = Value.int i t from rx)
  obtain ⟨t', rfl⟩ := (show ∃ t', v = Value.int j t' from ry)
  exact PyProof.Rows.iadd_int ⟨.int (i + j), H, I.tok _, ⟨_, rfl⟩, q⟩
end
/-! ### isinstance -/
section
variable {X : Cx} {pins : List (Addr × Obj)} {σ : St} {H : Hp} {s : Shared} {A : Around} {E : Value → Shared → Prop} {Q : Value → Shared → Prop} {c : Value} {b : Bool}
end
end L2
namespace L2
open PySem PySem.Spec PyProof.Rows
/-! ### room -/
structure Room (k : Nat) (A : Around) : Prop where
  hd : A.handled = none
  dp : A.depth + 3 * k + 5 < recursionLimit
  un : A.units + 16 * k + 200 < cLine
theorem Room.mono {j k : Nat} {A : Around} (r : Room k A) (h : j ≤ k) : Room j A := ⟨r.hd, by have := r.dp; omega, by have := r.un; omega⟩
theorem Room.deeper {k : Nat} {A : Around} (r : Room (k + 1) A) (env : Env) : Room k (A.deeper env) :=
  ⟨r.hd, by have := r.dp; show A.depth + 1 + 3 * k + 5 < _; omega, by have := r.un; show A.units + 3 + 16 * k + 200 < _; omega⟩
theorem make_depth {A : Around} {C : Addr} {us : List Value} {kw : List (Str × Value)} : (A.under (.builtin "type.__call__" ⟨.ref C :: us, kw⟩)).depth = A.depth + 1 := by
  first | rfl | simp [Around.under, Code.weight, Code.isCreation, Code.isGuard, Code.isCaller, Code.frames, Code.isFrame, guardIds]
theorem make_units {A : Around} {C : Addr} {us : List Value} {kw : List (Str × Value)} : (A.under (.builtin "type.__call__" ⟨.ref C :: us, kw⟩)).units = A.units + 1 := by
  first | rfl | simp [Around.under, Code.cUnits, Code.frames, Code.isFrame]
theorem Room.make {k : Nat} {A : Around} (r : Room (k + 1) A) (C : Addr) (us : List Value) (kw : List (Str × Value)) : Room k (A.under (.builtin "type.__call__" ⟨.ref C :: us, kw⟩)) :=
  ⟨r.hd, by have := r.dp; rw [make_depth]; omega, by have := r.un; rw [make_units]; omega⟩
theorem Room.depth {k : Nat} {A : Around} (r : Room k A) : A.depth < recursionLimit := by have := r.dp; omega
theorem Room.units {k : Nat} {A : Around} (r : Room k A) : A.units + 64 < cLine := by have := r.un; omega
/-! ### argument lists and displays -/
def tNil : TA := fun _ H Q => Q [] H
def tCons (ta : TE) (tr : TA) : TA := fun σ H Q => ta σ H fun x H1 => tr σ H1 fun xs H2 => Q (x :: xs) H2
section
variable {X : Cx} {e : Expr} {es : List Expr} {te : TE} {t : TA} {pos : Pos}
theorem pa_nil : PA X [] tNil := fun _ _ _ _ H Q I h => Calls.spliced_nil ⟨[], H, I, .nil, h⟩
theorem pa_cons (ha : PE X e te) (hr : PA X es t) (hs : starEach (e :: es) X.env = (false, eval e X.env) :: starEach es X.env := by rfl) : PA X (e :: es) (tCons te t) := by
  intro pos pins s σ H Q I h
  rw [hs]
  show wpAny _ _ (spliced ((false, eval e X.env) :: backTo pos (starEach es X.env))) _ _ s
  refine Calls.spliced_cons (thn (ha pins s σ H _ I h) fun u s1 ⟨x, H1, I1, r1, q1⟩ => ?_)
  exact thn (hr pos pins s1 σ H1 _ I1 q1) fun us s2 ⟨xs, H2, I2, r2, q2⟩ => ⟨x :: xs, H2, I2, .cons r1 r2, q2⟩
/-- a tuple, a list of written items -/
def tTup (t : TA) : TE := fun σ H Q => t σ H fun xs H1 => xs.length ≤ sizeLine ∧ ∀ p, H1 p = none → Q (.ref p) (upd H1 p (.tup xs))
def tLst (t : TA) : TE := fun σ H Q => t σ H fun xs H1 => xs.length ≤ sizeLine ∧ ∀ p, H1 p = none → Q (.ref p) (upd H1 p (.lst xs))
theorem pe_tup {x1} (h : PA X es t) : PE X (.Tuple es x1 pos) (tTup t) := by
  intro pins s σ H Q I hq
  refine wpAny_Tuple_spliced (thn (h pos pins s σ H _ I hq) fun us s1 ⟨xs, H1, I1, r, z, q⟩ => ⟨by rw [← r.length]; exact z, ?_⟩)
  have hf : H1 s1.heap.objs.size = none := I1.hok.fresh (Nat.le_refl _)
  refine ⟨.ref s1.heap.objs.size, upd H1 s1.heap.objs.size (.tup xs), I1.laid (t' := s1.toks) (fun b u e => Heap.get?_push_of_some _ e) (Nat.le_refl _) ?_, rfl, q _ hf⟩
  exact ⟨z, us, r, ⟨_, Heap.get?_push_size _ rfl, rfl, _, rfl⟩⟩
theorem pe_lst (h : PA X es t) : PE X (.List es pos) (tLst t) := by
  intro pins s σ H Q I hq
  refine wpAny_List_spliced (thn (h pos pins s σ H _ I hq) fun us s1 ⟨xs, H1, I1, r, z, q⟩ => ⟨by rw [← r.length]; exact z, ?_⟩)
  have hf : H1 s1.heap.objs.size = none := I1.hok.fresh (Nat.le_refl _)
  refine ⟨.ref s1.heap.objs.size, upd H1 s1.heap.objs.size (.lst xs), I1.laid (t' := s1.toks) (fun b u e => Heap.get?_push_of_some _ e) (Nat.le_refl _) ?_, rfl, q _ hf⟩
  exact ⟨z, us, 0, r, Heap.get?_push_size _ rfl⟩
end
/-! ### what a def promises -/
/-- a def's promise: the bound arguments in the parameters' order, the heap, the wanted end, the wanted exception -/
abbrev Sp := List V → Hp → VK → XK → Prop
/-- how an exception lies behind a call (file 08 gives it): the callers' frames, abstract heap and state ahead of the call, the wish, the exception, the state -/
abbrev CXT := List Env → Hp → Shared → XK → Value → Shared → Prop
/-- the state at a call -/
structure Env0 (P : Program) (w : World) (K : PySem.W.Frag) (mg : Str → Option Value) (base : Heap) (A : Around) (outer : List Env) (s : Shared) (H : Hp) : Prop where
  frames : A.frames = some outer
  mod : Mod K mg base
  bs : ∀ b o, base.get? b = some o → s.heap.get? b = some o ∧ H b = none
  bsz : base.objs.size ≤ s.heap.objs.size
  funs : s.heap.FunFrames base outer
  frf : ∀ b ∈ frs outer, H b = none
  hok : HOk P w H s.heap
  bare : AllBare s.gens
/-- a call's end -/
def CE (outer : List Env) (P : Program) (w : World) (H : Hp) (s : Shared) (Q : VK) (u : Value) (s' : Shared) : Prop :=
  ∃ v H', s'.os = s.os ∧ AllBare s'.gens ∧ Un (frs outer) [] H H' s.heap s'.heap ∧ HOk P w H' s'.heap ∧ RelV v u ∧ Q v H'
def CR (CX : CXT) (outer : List Env) (P : Program) (w : World) (H : Hp) (s : Shared) (Q : VK) (E : XK) (r : Result) (s' : Shared) : Prop :=
  match r with
  | .ok (.ret u) => CE outer P w H s Q u s'
  | .ok _ => False
  | .error e => CX outer H s E e s'
structure FnOk (P : Program) (w : World) (K : PySem.W.Frag) (mg : Str → Option Value) (base : Heap) (CX : CXT) (k : Nat) (f : Addr) (fd : FuncData) (ps : List Str) (sp : Sp) : Prop where
  len : ∀ vs H Q E, sp vs H Q E → vs.length = ps.length
  run : ∀ (A : Around) (outer : List Env) (s : Shared) (H : Hp) (args : Args) (us : List Value) (vs : List V) (Q : VK) (E : XK), Room k A → Env0 P w K mg base A outer s H → BindsTo s fd args (ps.zip us) → Vals vs us → sp vs H Q E →
    codeAny (model P w) A (.call (.ref f) args) (CR CX outer P w H s Q E) s
theorem Env0.make {P : Program} {w : World} {K : PySem.W.Frag} {mg : Str → Option Value} {base : Heap} {A : Around} {outer : List Env} {s : Shared} {H : Hp} (e : Env0 P w K mg base A outer s H) (C : Addr) (us : List Value) (kw : List (Str × Value)) :
    Env0 P w K mg base (A.under (.builtin "type.__call__" ⟨.ref C :: us, kw⟩)) outer s H := ⟨by first | exact e.frames | (simpa [Around.under, Code.envs, Code.isFrame, pushEnvs] using e.frames), e.mod, e.bs, e.bsz, e.funs, e.frf, e.hok, e.bare⟩
section
variable {X : Cx} {pins : List (Addr × Obj)} {σ : St} {H : Hp} {s s' : Shared}
/-- from a body: what a callee wants -/
theorem Inv.env0 (I : Inv X pins σ H s) : Env0 X.prog X.w X.K X.mg X.base X.A X.stack s H :=
  ⟨I.ok.frames, I.ok.mod, I.bs, Nat.le_trans I.ok.bsz I.sz, I.stack, I.stkFree, I.hok, I.bare⟩
/-- behind a call -/
theorem Inv.after {Q : VK} {u : Value} (I : Inv X pins σ H s) (h : CE X.stack X.prog X.w H s Q u s') : EP X pins σ Q u s' := by
  obtain ⟨v, H', os, bare, un, hok, r, q⟩ := h
  obtain ⟨hh, g, d, t, os'⟩ := s'
  obtain rfl : os' = s.os := os
  exact ⟨v, H', I.call (h' := hh) (g' := g) (d' := d) (t' := t) (ch := []) un hok bare (fun b z => absurd z (by simp)), r, q⟩
end
/-! ### calls -/
/-- f(..): the written arguments, then the defaults dvs; E: what is wanted of an exception -/
def tCall (sp : Sp) (dvs : List V) (E : XK) (t : TA) : TE := fun σ H Q => t σ H fun vs H1 => sp (vs ++ dvs) H1 Q E
/-- o.m(..) of an instance of the class at C -/
def tMeth (C : Addr) (m : Str) (sp : Sp) (dvs : List V) (E : XK) (ta : TE) (t : TA) : TE := fun σ H Q => ta σ H fun x H1 => ∃ a dx fs, x = .ref a ∧ H1 a = some (.ins C dx fs) ∧ fs.lookup m = none ∧
  t σ H1 fun vs H2 => sp (x :: (vs ++ dvs)) H2 Q E
/-- C(..): a new instance and its dict, then __init__ -/
def tMake (C : Addr) (sp : Sp) (dvs : List V) (E : XK) (t : TA) : TE := fun σ H Q => t σ H fun vs H1 => ∀ x dx, H1 x = none → H1 dx = none → dx ≠ x →
  sp (.ref x :: (vs ++ dvs)) (upd (upd H1 dx (.own x)) x (.ins C dx [])) (fun v H2 => v = .non ∧ Q (.ref x) H2) E
/-- how the parameters are bound: us the positional arguments, kw the keywords' values by name, ds the defaults that fill up -/
def Binds (K : PySem.W.Frag) (fd : FuncData) (ps : List Str) (ds : List Value) : Prop :=
  ∀ (s : Shared) (us : List Value), K.In s.heap → (us ++ ds).length = ps.length → BindsTo s fd ⟨us, []⟩ (ps.zip (us ++ ds))
/-- every parameter is given -/
theorem Binds.all {K : PySem.W.Frag} {fd : FuncData} {ps : List Str} (h : ∀ us : List Value, us.length = ps.length → bindArgs fd ⟨us, []⟩ = pure (ps.zip us)) : Binds K fd ps [] := fun s us _ hl => by
  rw [List.append_nil] at hl ⊢
  exact .of_eq (h us hl)
/-- an exception of a callee reaches what this body wants of exceptions -/
def Passes (CX : CXT) (X : Cx) (E : XK) : Prop := ∀ (pins : List (Addr × Obj)) (σ : St) (H : Hp) (s : Shared) (e : Value) (s' : Shared), Inv X pins σ H s → CX X.stack H s E e s' → X.xe e s'
section
variable {X : Cx} {CX : CXT} {k : Nat} {f C : Addr} {fd : FuncData} {ps : List Str} {sp : Sp} {dvs : List V} {ds : List Value} {E : XK} {x m : Str} {p pos apos : Pos} {e o : Expr} {es : List Expr} {ta : TE} {t : TA}
/-- the callee runs -/
theorem run_fn {pins : List (Addr × Obj)} {σ : St} {H : Hp} {s : Shared} {Q : VK} {us : List Value} {vs : List V} (F : FnOk X.prog X.w X.K X.mg X.base CX k f fd ps sp) (hr : Room k X.A) (hb : Binds X.K fd ps ds) (hd : Vals dvs ds) (hx : Passes CX X E)
    (I : Inv X pins σ H s) (r : Vals vs us) (h : sp (vs ++ dvs) H Q E) : wpAny (model X.prog X.w) X.A (call (.ref f) us) (EP X pins σ Q) X.xe s := by
  have r2 : Vals (vs ++ dvs) (us ++ ds) := r.append hd
  have hl : (us ++ ds).length = ps.length := by rw [← r2.length]; exact F.len _ _ _ _ h
  refine wpAny_call (codeAny_mono (F.run X.A X.stack s H ⟨us, []⟩ (us ++ ds) (vs ++ dvs) Q E hr I.env0 (hb s us I.kIn hl) r2 h) fun r s' hq => ?_)
  cases r with
  | error e => exact hx pins σ H s e s' I hq
  | ok fl =>
    cases fl with
    | ret u => exact I.after hq
    | next => exact False.elim hq
    | brk => exact False.elim hq
    | cont => exact False.elim hq
theorem pe_call (F : FnOk X.prog X.w X.K X.mg X.base CX k f fd ps sp) (hr : Room k X.A) (hg : Gl X x) (hm : X.mg x = some (.ref f)) (hk : PySem.W.keepIn X.K (.ref f) = true) (hb : Binds X.K fd ps ds) (hd : Vals dvs ds) (hx : Passes CX X E)
    (ha : PA X (e :: es) t) (hdb : (x == ("__debug__" : Str)) = false := by decide) (he : starEach (e :: es) X.env = (false, eval e X.env) :: starEach es X.env := by rfl) (hpl : (backTo pos (starEach es X.env)).any (·.1) = false := by rfl) :
    PE X (.Call (.Name x p) (e :: es) [] pos) (tCall sp dvs E t) := by
  intro pins s σ H Q I h
  refine wpAny_Call_Name_kw (ld_glob I hg hm ?_ hdb)
  refine PySem.W.callWith_K (h₀ := X.base) I.ok.mod.kin hk (thn (ha pos pins s σ H _ I h) fun us s1 ⟨vs, H1, I1, r, q⟩ => ⟨I1.kIn, ?_⟩) he hpl
  exact run_fn F hr hb hd hx I1 r q
/-- o.m(e, ..) -/
theorem pe_meth {pl : Sem Bool} (he : PE X o ta) (c : Cls X.K C) (hm : Meth X.K C m f) (F : FnOk X.prog X.w X.K X.mg X.base CX k f fd ps sp) (hr : Room k X.A) (hb : Binds X.K fd ps ds) (hd : Vals dvs ds) (hx : Passes CX X E) (ha : PA X (e :: es) t)
    (hst : starEach (e :: es) X.env = (false, eval e X.env) :: starEach es X.env := by rfl) (hpl : (backTo pos (starEach es X.env)).any (·.1) = false := by rfl)
    (ht : eval (.Call (.Attribute o m apos) (e :: es) [] pos) X.env = (do
      let ov ← eval o X.env
      standAt apos.atName
      let (f, first) ← holding [ov] (getMethod ov m pl)
      callWith pos f first (backTo pos (starEach (e :: es) X.env)) (backToKw pos (keywordEach [] X.env))) := by rfl) :
    PE X (.Call (.Attribute o m apos) (e :: es) [] pos) (tMeth C m sp dvs E ta t) := by
  intro pins s σ H Q I h
  refine PySem.W.methodCall_KW (pl := pl) (thn (he pins s σ H _ I h) fun u s1 ⟨x, H1, I1, rx, a, dx, fs, ex, ea, l, q⟩ => ?_) ht
  subst ex
  obtain rfl : u = Value.ref a := rx
  refine getmeth_ok I1 ea c hm l ?_
  refine PySem.W.callWith_K (first := [.ref a]) (h₀ := X.base) I.ok.mod.kin hm.kp (thn (ha pos pins s1 σ H1 _ I1 q) fun us s2 ⟨vs, H2, I2, r, q2⟩ => ⟨I2.kIn, ?_⟩) hst hpl
  exact run_fn (us := .ref a :: us) (vs := .ref a :: vs) F hr hb hd hx I2 (.cons rfl r) q2
/-- what a class must have to be made -/
structure Mk (K : PySem.W.Frag) (C f : Addr) : Prop where
  makes : PySem.W.makesIn K C = true
  init : PySem.W.findIn K (.ref C) "__init__" = some (some (.ref f))
  fn : PySem.W.isFn K (.ref f) = true
  kp : PySem.W.keepIn K (.ref C) = true
theorem run_make {pins : List (Addr × Obj)} {σ : St} {H : Hp} {s : Shared} {Q : VK} {us : List Value} {vs : List V} (M : Mk X.K C f) (F : FnOk X.prog X.w X.K X.mg X.base CX k f fd ps sp) (hr : Room (k + 1) X.A) (hb : Binds X.K fd ps ds) (hd : Vals dvs ds)
    (hx : Passes CX X E) (I : Inv X pins σ H s) (r : Vals vs us)
    (h : ∀ x dx, H x = none → H dx = none → dx ≠ x → sp (.ref x :: (vs ++ dvs)) (upd (upd H dx (.own x)) x (.ins C dx [])) (fun v H2 => v = .non ∧ Q (.ref x) H2) E) :
    wpAny (model X.prog X.w) X.A (call (.ref C) us) (EP X pins σ Q) X.xe s := by
  have hq := h (s.heap.objs.size + 1) s.heap.objs.size (I.hok.fresh (Nat.le_succ _)) (I.hok.fresh (Nat.le_refl _)) (Nat.ne_of_lt (Nat.lt_succ_self _))
  have I2 := Inv.made (C := C) I
  have r2 : Vals (V.ref (s.heap.objs.size + 1) :: (vs ++ dvs)) (Value.ref (s.heap.objs.size + 1) :: (us ++ ds)) := .cons rfl (r.append hd)
  have hl : (Value.ref (s.heap.objs.size + 1) :: us ++ ds).length = ps.length := by
    have e := r2.length
    rw [F.len _ _ _ _ hq] at e
    exact e.symm
  refine wpAny_call (make_map (f := f) I.kIn M.makes M.init (beq_iff_eq.mp M.fn) (codeAny_mono (F.run _ X.stack _ _ ⟨Value.ref (s.heap.objs.size + 1) :: us, []⟩ (Value.ref (s.heap.objs.size + 1) :: (us ++ ds)) _ _ E (hr.make C us [])
    (I2.env0.make C us []) (hb _ (Value.ref (s.heap.objs.size + 1) :: us) I2.kIn hl) r2 hq) fun r s' hq' => ?_))
  cases r with
  | error e => exact hx pins σ _ _ e s' I2 hq'
  | ok fl =>
    cases fl with
    | ret u =>
      obtain ⟨v, H', I3, rv, ev, q3⟩ := I2.after hq'
      subst ev
      exact ⟨rv, ⟨V.ref (s.heap.objs.size + 1), H', I3, rfl, q3⟩⟩
    | next => exact False.elim hq'
    | brk => exact False.elim hq'
    | cont => exact False.elim hq'
theorem pe_make (M : Mk X.K C f) (F : FnOk X.prog X.w X.K X.mg X.base CX k f fd ps sp) (hr : Room (k + 1) X.A) (hg : Gl X x) (hm : X.mg x = some (.ref C)) (hb : Binds X.K fd ps ds) (hd : Vals dvs ds) (hx : Passes CX X E)
    (ha : PA X (e :: es) t) (hdb : (x == ("__debug__" : Str)) = false := by decide) (he : starEach (e :: es) X.env = (false, eval e X.env) :: starEach es X.env := by rfl) (hpl : (backTo pos (starEach es X.env)).any (·.1) = false := by rfl) :
    PE X (.Call (.Name x p) (e :: es) [] pos) (tMake C sp dvs E t) := by
  intro pins s σ H Q I h
  refine wpAny_Call_Name_kw (ld_glob I hg hm ?_ hdb)
  refine PySem.W.callWith_K (h₀ := X.base) I.ok.mod.kin M.kp (thn (ha pos pins s σ H _ I h) fun us s1 ⟨vs, H1, I1, r, q⟩ => ⟨I1.kIn, ?_⟩) he hpl
  exact run_make M F hr hb hd hx I1 r q
theorem pe_make0 (M : Mk X.K C f) (F : FnOk X.prog X.w X.K X.mg X.base CX k f fd ps sp) (hr : Room (k + 1) X.A) (hg : Gl X x) (hm : X.mg x = some (.ref C)) (hb : Binds X.K fd ps ds) (hd : Vals dvs ds) (hx : Passes CX X E)
    (hdb : (x == ("__debug__" : Str)) = false := by decide) : PE X (.Call (.Name x p) [] [] pos) (tMake C sp dvs E tNil) := by
  intro pins s σ H Q I h
  refine wpAny_Call_Name_kw (ld_glob I hg hm ?_ hdb)
  exact PySem.W.callWith_K0 I.kIn M.kp (run_make (us := []) M F hr hb hd hx I .nil h)
end
/-! ### keywords -/
section
variable {X : Cx} {CX : CXT} {k : Nat} {f C : Addr} {fd : FuncData} {ps ks : List Str} {sp : Sp} {E : XK} {x m : Str} {p pos apos kpos : Pos} {e o : Expr} {es : List Expr} {kws : List Keyword} {te ta : TE} {t tk : TA} {nm : Option Str}
variable {g : List Value → List Value → List Value} {gV : List V → List V → List V}
end
/-! ### a def's body keeps its promise -/
/-- names: the parameters first -/
structure FnScope (N P : List Str) (sc : Scope) : Prop where
  kind : sc.kind = .function
  co : sc.isCoroutine = false
  gen : sc.isGenerator = false
  nd : N.Nodup
  pre : N.take P.length = P
  par : ∀ x ∈ P, sc.names.lookup x = some .local ∨ sc.names.lookup x = some .cell
  nofree : ∀ y ∈ sc.names, y.2 ≠ .free
theorem bindL_out {kindOf : Str → Option NameKind} {x : Str} : ∀ {binds : List (Str × Value)} {m : Str → Option Value}, (∀ v, (x, v) ∉ binds) → bindL kindOf binds m x = m x
  | [], _, _ => rfl
  | (n, v) :: r, m, h => by
    unfold bindL
    rw [bindL_out fun w hw => h w (List.mem_cons_of_mem _ hw)]
    split
    · have : x ≠ n := by rintro rfl; exact h v List.mem_cons_self
      simp [this]
    · rfl
theorem bindC_out {kindOf : Str → Option NameKind} {x : Str} : ∀ {binds : List (Str × Value)} {m : Str → Option Value}, (∀ v, (x, v) ∉ binds) → bindC kindOf binds m x = m x
  | [], _, _ => rfl
  | (n, v) :: r, m, h => by
    unfold bindC
    rw [bindC_out fun w hw => h w (List.mem_cons_of_mem _ hw)]
    split
    · rfl
    · have : x ≠ n := by rintro rfl; exact h v List.mem_cons_self
      simp [this]
theorem bindL_get {kindOf : Str → Option NameKind} {x : Str} {v : Value} : ∀ {P : List Str} {vs : List Value} {i : Nat} {m : Str → Option Value}, P.Nodup → P[i]? = some x → vs[i]? = some v → kindOf x = some .local →
    bindL kindOf (P.zip vs) m x = some v
  | [], _, _, _, _, h, _, _ => by simp at h
  | _ :: _, [], _, _, _, _, h, _ => by simp at h
  | p :: P, w :: vs, 0, m, nd, h1, h2, hk => by
    simp at h1 h2; subst h1; subst h2
    show bindL kindOf ((p, w) :: P.zip vs) m p = _
    unfold bindL
    rw [bindL_out fun v hv => (List.nodup_cons.mp nd).1 (List.of_mem_zip hv).1, if_pos hk]
    simp
  | p :: P, w :: vs, i + 1, m, nd, h1, h2, hk => by
    show bindL kindOf ((p, w) :: P.zip vs) m x = _
    unfold bindL
    exact bindL_get (i := i) (List.nodup_cons.mp nd).2 (by simpa using h1) (by simpa using h2) hk
theorem bindC_get {kindOf : Str → Option NameKind} {x : Str} {v : Value} : ∀ {P : List Str} {vs : List Value} {i : Nat} {m : Str → Option Value}, P.Nodup → P[i]? = some x → vs[i]? = some v → kindOf x ≠ some .local →
    bindC kindOf (P.zip vs) m x = some v
  | [], _, _, _, _, h, _, _ => by simp at h
  | _ :: _, [], _, _, _, _, h, _ => by simp at h
  | p :: P, w :: vs, 0, m, nd, h1, h2, hk => by
    simp at h1 h2; subst h1; subst h2
    show bindC kindOf ((p, w) :: P.zip vs) m p = _
    unfold bindC
    rw [bindC_out fun v hv => (List.nodup_cons.mp nd).1 (List.of_mem_zip hv).1, if_neg hk]
    simp
  | p :: P, w :: vs, i + 1, m, nd, h1, h2, hk => by
    show bindC kindOf ((p, w) :: P.zip vs) m x = _
    unfold bindC
    exact bindC_get (i := i) (List.nodup_cons.mp nd).2 (by simpa using h1) (by simpa using h2) hk
/-- the names' values at the entry -/
def start (N : List Str) (vs : List V) : St := vs.map some ++ List.replicate (N.length - vs.length) none
/-- the context of a def's body, at its entry; an exception leaves the frame, then lies as CX says -/
def cxOf (CX : CXT) (P : Program) (w : World) (K : PySem.W.Frag) (mg : Str → Option Value) (base : Heap) (N : List Str) (qual : Str) (scope : Scope) (f : Addr) (cd : Value) (A : Around) (outer : List Env) (s : Shared) (H : Hp) (E : XK) : Cx where
  prog := P
  w := w
  K := K
  mg := mg
  base := base
  A := A.deeper (envOfC qual scope s.heap.objs.size f cd)
  N := N
  s_0 := s
  H_0 := H
  env := envOfC qual scope s.heap.objs.size f cd
  outer := outer
  stack := envOfC qual scope s.heap.objs.size f cd :: outer
  ex := []
  calm := true
  fn := fun _ => true
  pn := []
  xe := fun e s' => wpAny (model P w) (A.deeper (envOfC qual scope s.heap.objs.size f cd)) (leaving (envOfC qual scope s.heap.objs.size f cd) e) (fun _ s'' => CX outer H s E e s'') (fun e' s'' => CX outer H s E e' s'') s'
theorem cell_has {sc : Scope} {n : Nat} {x : Str} (h : sc.names.lookup x = some .cell) : ∃ c, (cellsFrom n sc.names []).lookup x = some c := by
  have q := PySem.W.cellsFrom_some sc.names n [] (.inl h)
  exact Option.isSome_iff_exists.mp q
theorem inv_start {CX : CXT} {P : Program} {w : World} {K : PySem.W.Frag} {mg : Str → Option Value} {base : Heap} {N ps : List Str} {qual : Str} {scope : Scope} {f : Addr} {cd : Value} {A : Around} {outer : List Env} {s s1 : Shared} {H : Hp} {E : XK} {us : List Value} {vs : List V}
    (S : FnScope N ps scope) (hd : A.handled = none) (e0 : Env0 P w K mg base A outer s H) (hl : vs.length = ps.length) (r : Vals vs us)
    (x : InCallC s s.heap.objs.size (bindL (envOfC qual scope s.heap.objs.size f cd).kindOf (ps.zip us) fun _ => none) (cellsFrom (s.heap.objs.size + 1) scope.names []) (bindC (envOfC qual scope s.heap.objs.size f cd).kindOf (ps.zip us) fun _ => none) s1) :
    Inv (cxOf CX P w K mg base N qual scope f cd A outer s H E) [] (start N vs) H s1 := by
  have hpl : ps.length ≤ N.length := by have := congrArg List.length S.pre; rw [List.length_take] at this; omega
  obtain ⟨h1, tk, rfl, hk⟩ := x.done
  have noA : ∀ b : Addr, b ∉ (cxOf CX P w K mg base N qual scope f cd A outer s H E).ex := fun b z => absurd (show b ∈ ([] : List Addr) from z) (by simp)
  refine ⟨⟨e0.mod, S.kind, rfl, rfl, Nat.le_refl _, fun y z c h1 h2 => ?_, fun y hy => ?_, fun y c _ h => ?_, fun _ => hd, Around.frames_deeper e0.frames, .inr ⟨rfl, rfl⟩, fun b z => absurd z (noA b), e0.bs, e0.bsz, fun b _ _ => noA b, fun b z => absurd z (noA b), e0.funs, e0.frf⟩,
    rfl, e0.bare, Un.kept hk, ⟨_, x.toInCall.ns, fun i y v h1 h2 h3 => ?_⟩, fun y c h => ⟨_, x.cell y c h⟩, e0.hok.fresh (Nat.le_refl _), fun y c h => ?_, fun p hp => absurd (show p ∈ ([] : List (Addr × Obj)) from hp) (by simp), e0.hok.kept hk, ?_⟩
  · exact name_of_addr x.apart (PySem.mem_of_lookup h1) (PySem.mem_of_lookup h2)
  · have hy : scope.names.lookup y = some .cell ∨ scope.names.lookup y = some .free := hy
    rcases hy with hy | hy
    · exact cell_has hy
    · exact absurd rfl (S.nofree _ (PySem.mem_of_lookup hy))
  · exact Nat.le_of_lt (x.above y c (PySem.mem_of_lookup h))
  · have hi : i < vs.length := by
      unfold start at h2
      by_cases hi : i < vs.length
      · exact hi
      · rw [List.getElem?_append_right (by simpa using hi)] at h2
        rw [List.getElem?_replicate] at h2
        split at h2 <;> cases h2
    have ha : vs[i]? = some v := by
      unfold start at h2
      rw [List.getElem?_append_left (by simpa using hi), List.getElem?_map] at h2
      cases e : vs[i]? with
      | none => rw [e] at h2; cases h2
      | some a => rw [e] at h2; cases h2; rfl
    obtain ⟨u, hu, rv⟩ := r.get ha
    have hp : ps[i]? = some y := by
      rw [← S.pre, List.getElem?_take_of_lt (by omega)]; exact h1
    have ndP : ps.Nodup := by rw [← S.pre]; exact S.nd.sublist (List.take_sublist _ _)
    refine ⟨u, rv, ?_⟩
    rcases S.par y (List.mem_of_getElem? hp) with k | k
    · exact .inl ⟨k, bindL_get ndP hp hu k⟩
    · obtain ⟨c, e⟩ := cell_has (n := s.heap.objs.size + 1) k
      refine .inr ⟨.inl k, c, e, ?_⟩
      have q := x.cell y c e
      rw [bindC_get ndP hp hu (by show scope.names.lookup y ≠ _; rw [k]; decide)] at q
      exact q
  · exact e0.hok.fresh (Nat.le_of_lt (x.above y c (PySem.mem_of_lookup h)))
  · unfold start
    show _ = N.length
    rw [List.length_append, List.length_map, List.length_replicate]
    omega
/-- THE RULE: a def (or a method) of the text, by its body. The body's reading t is chosen for each entry; it is run at the parameters' values -/
theorem fn_of {CX : CXT} {P : Program} {w : World} {K : PySem.W.Frag} {mg : Str → Option Value} {base : Heap} {k : Nat} {f : Addr} {name qual : Str} {params : Arguments} {body : List Stmt} {scope : Scope} {dV kV doc pm cdv ct oc : Value} {an od : Option Addr}
    {osl : Array (Option Value)} {N ps : List Str} {sp : Sp} (lk : K.lookup f = some ⟨oc, od, .func (PySem.W.fnOf name qual params body scope dV kV doc pm an cdv ct), osl⟩) (hcd : PySem.W.codeIn K cdv qual = true) (S : FnScope N ps scope)
    (len : ∀ vs H Q E, sp vs H Q E → vs.length = ps.length)
    (hbody : ∀ (A : Around) (outer : List Env) (s : Shared) (H : Hp) (vs : List V) (Q : VK) (E : XK), Room k (A.deeper (envOfC qual scope s.heap.objs.size f cdv)) → sp vs H Q E →
      ∃ t, PSs (cxOf CX P w K mg base N qual scope f cdv A outer s H E) body t ∧ t { nx := fun _ H' => Q .non H', rt := Q } (start N vs) H) :
    FnOk P w K mg base CX (k + 1) f (PySem.W.fnOf name qual params body scope dV kV doc pm an cdv ct) ps sp := by
  refine ⟨len, fun A outer s H args us vs Q E hr e0 hb r hsp => ?_⟩
  have hl := len _ _ _ _ hsp
  have KX : K.In s.heap := e0.mod.kin.keeps fun b o e => (e0.bs b o e).1
  have lim : s.heap.NoLimit := e0.mod.nolimit.keeps fun b o e => (e0.bs b o e).1
  have hkind : ∀ y ∈ ps.zip us, scope.names.lookup y.1 = some .local ∨ (scope.names.lookup y.1 = some .cell ∧ ((cellsFrom (s.heap.objs.size + 1) scope.names []).lookup y.1).isSome = true) := fun ⟨n, v⟩ hy => by
    rcases S.par n (List.of_mem_zip hy).1 with q | q
    · exact .inl q
    · exact .inr ⟨q, PySem.W.cellsFrom_some _ _ _ (.inl q)⟩
  refine codeAny_call_function hr.depth (KX _ _ lk) rfl S.co S.gen rfl (PySem.W.codeRec_of KX hcd) (hb _ _ _ _ ?_)
  refine wpAny_newFunctionEnv_cells S.kind hkind fun env he s1 x => ?_
  subst he
  refine ⟨lim.keeps x.toInCall.keep, codeAny_func ?_⟩
  obtain ⟨t, ht, hq⟩ := hbody A outer s H vs Q E (hr.deeper _) hsp
  have I : Inv (cxOf CX P w K mg base N qual scope f cdv A outer s H E) [] (start N vs) H s1 := inv_start S hr.hd e0 hl r x
  refine wpAny_mono (ht [] s1 (start N vs) H _ I hq) (fun fl s' hs => ?_) fun e s' hs => hs
  have fin : ∀ {σ' : St} {H' : Hp} {v : V} {u : Value}, Inv (cxOf CX P w K mg base N qual scope f cdv A outer s H E) [] σ' H' s' → RelV v u → Q v H' → CE outer P w H s Q u s' :=
    fun {σ' H' v u} J rv q => ⟨v, H', J.os, J.bare, J.base, J.hok, rv, q⟩
  cases fl with
  | ret u =>
    obtain ⟨v, σ', H', J, rv, q⟩ := hs
    exact fin J rv q
  | next =>
    obtain ⟨σ', H', J, q⟩ := hs
    exact fin (v := V.non) (u := Value.none) J rfl q
  | brk =>
    obtain ⟨_, _, _, q⟩ := hs
    exact False.elim q
  | cont =>
    obtain ⟨_, _, _, q⟩ := hs
    exact False.elim q
end L2
namespace L2
open PySem PySem.Spec PyProof.Rows
section
variable {X : Cx} {x : Str} {p pos : Pos} {e : Expr} {es : List Expr} {t : TA} {id T : String} {r : List V → Hp → VK → Prop}
def tCB (r : List V → Hp → VK → Prop) (t : TA) : TE := fun σ H Q => t σ H fun vs H1 => r vs H1 Q
/-- f(e, ..), f a built-in function -/
theorem pe_callB (hc : CallR X (.builtin id) r) (hg : Gl X x) (hm : X.mg x = none) (hv : bootBuiltins x = some (.builtin id)) (ha : PA X (e :: es) t) (hn : x ≠ "__name__" := by decide) (hdb : (x == ("__debug__" : Str)) = false := by decide)
    (he : starEach (e :: es) X.env = (false, eval e X.env) :: starEach es X.env := by rfl) (hpl : (backTo pos (starEach es X.env)).any (·.1) = false := by rfl) : PE X (.Call (.Name x p) (e :: es) [] pos) (tCB r t) := by
  intro pins s σ H Q I h
  refine wpAny_Call_Name_kw (ld_blt I hg hm hv ?_ hn hdb)
  exact PyProof.Rows.callWith_builtin1 (thn (ha pos pins s σ H _ I h) fun us s1 ⟨vs, H1, I1, r1, q1⟩ => hc pins s1 σ H1 vs us Q I1 r1 q1) he hpl
/-- T(e, ..), T a built-in type -/
theorem pe_callTy (hc : CallR X (.type T) r) (hg : Gl X x) (hm : X.mg x = none) (hv : bootBuiltins x = some (.type T)) (ha : PA X (e :: es) t) (hn : x ≠ "__name__" := by decide) (hdb : (x == ("__debug__" : Str)) = false := by decide)
    (he : starEach (e :: es) X.env = (false, eval e X.env) :: starEach es X.env := by rfl) (hpl : (backTo pos (starEach es X.env)).any (·.1) = false := by rfl) : PE X (.Call (.Name x p) (e :: es) [] pos) (tCB r t) := by
  intro pins s σ H Q I h
  refine wpAny_Call_Name_kw (ld_blt I hg hm hv ?_ hn hdb)
  exact PyProof.Rows.callWith_type1 (thn (ha pos pins s σ H _ I h) fun us s1 ⟨vs, H1, I1, r1, q1⟩ => hc pins s1 σ H1 vs us Q I1 r1 q1) he hpl
end
end L2
namespace HT
open PySem PyProof.Rows
section
open PySem.SeqAt
open PySem.AutoSeq1 (wpAny_loadPart')
open PySem.MeetsSeq PySem.MeetsSeq2 PySem.MeetsSeq3
end
section
variable {prog : Program} {w : World} {A : Around} {E : Value → Shared → Prop} {s : Shared}
/-! ### t[a:b], not the whole -/
/-- a slice's bound as a place among n (d where it is left out) -/
def sIx (n d : Nat) : Option Int → Nat
  | none => d
  | some v => if v < 0 then (v + (n : Int)).toNat else min v.toNat n
theorem sIx_none (n d : Nat) : sIx n d none = d := rfl
theorem sIx_nat (n d k : Nat) : sIx n d (some (k : Int)) = min k n := by
  show (if (k : Int) < 0 then ((k : Int) + (n : Int)).toNat else min (k : Int).toNat n) = min k n
  rw [if_neg (by omega), Int.toNat_natCast]
end
end HT
namespace L2
open PySem PySem.Spec PyProof.Rows
/-! ### the parts of a slice -/
abbrev TO := St → Hp → (Option Int → Hp → Prop) → Prop
/-- a slice's part (left out, or an int) -/
def PO (X : Cx) (e : Option Expr) (t : TO) : Prop :=
  ∀ (pins : List (Addr × Obj)) (s : Shared) (σ : St) (H : Hp) (Q : Option Int → Hp → Prop), Inv X pins σ H s → t σ H Q →
    wpAny (model X.prog X.w) X.A (evalPart e X.env) (fun u s' => ∃ o H', Inv X pins σ H' s' ∧ IsPart u o ∧ Q o H') X.xe s
def tNoPart : TO := fun _ H Q => Q none H
def tPart (t : TE) : TO := fun σ H Q => t σ H fun x H1 => ∃ i, x = .int i ∧ Q (some i) H1
section
variable {X : Cx} {e : Expr} {te : TE} {lo hi : Option Expr} {tl th : TO} {pos p2 : Pos}
theorem po_none : PO X none tNoPart := by
  intro pins s σ H Q I h
  rw [evalPart_none]
  exact wpAny_pure ⟨none, H, I, .none, h⟩
theorem po_some (h : PE X e te) : PO X (some e) (tPart te) := by
  intro pins s σ H Q I hw
  rw [evalPart_some]
  refine thn (h pins s σ H _ I hw) fun u s1 ⟨x, H1, I1, r1, q1⟩ => ?_
  obtain ⟨i, rfl, q⟩ := q1
  obtain ⟨t, rfl⟩ := r1
  exact ⟨some i, H1, I1, .int i t, q⟩
/-- what a slice of a value is, by values: the slice object stands at sl -/
def SlR (X : Cx) (r : V → Option Int → Option Int → Hp → VK → Prop) : Prop :=
  ∀ (pins : List (Addr × Obj)) (s : Shared) (σ : St) (H : Hp) (x : V) (v vl vu : Value) (lo hi : Option Int) (sl : Addr) (Q : VK), Inv X pins σ H s → RelV x v → s.heap.IsSliceOf sl vl vu .none → IsPart vl lo → IsPart vu hi → r x lo hi H Q →
    ∃ T id, typeLookup (.type T) "__getitem__" = pure (some (.builtin id)) ∧ s.TypeIs v T ∧ wpAny (model X.prog X.w) X.A (getItem v (.ref sl)) (EP X pins σ Q) X.xe s
def tSl (r : V → Option Int → Option Int → Hp → VK → Prop) (te : TE) (tl th : TO) : TE := fun σ H Q => te σ H fun x H1 => tl σ H1 fun l H2 => th σ H2 fun u H3 => r x l u H3 Q
/-- a[lo:hi], any a -/
theorem pe_slice {r : V → Option Int → Option Int → Hp → VK → Prop} (hr : SlR X r) (he : PE X e te) (hl : PO X lo tl) (hu : PO X hi th) : PE X (.Subscript e (.Slice lo hi none p2) pos) (tSl r te tl th) := by
  intro pins s σ H Q I h
  refine Subscript_ (thn (he pins s σ H _ I h) fun v s1 ⟨x, H1, I1, r1, q1⟩ => ?_)
  refine wpAny_Slice (thn (hl pins s1 σ H1 _ I1 q1) fun vl s2 ⟨l, H2, I2, pl, q2⟩ => thn (hu pins s2 σ H2 _ I2 q2) fun vu s3 ⟨u, H3, I3, pu, q3⟩ => ?_)
  rw [evalPart_none]
  refine wpAny_pure ?_
  have I4 : Inv X pins σ H3 { s3 with heap := s3.heap.push { cls := .type "slice", data := .fields #[vl, vu, .none] } } := I3.kept (t' := s3.toks) fun b ob q => Heap.get?_push_of_some _ q
  obtain ⟨T, id, hT, ht, hg⟩ := hr pins { s3 with heap := s3.heap.push { cls := .type "slice", data := .fields #[vl, vu, .none] } } σ H3 x v vl vu l u s3.heap.objs.size Q I4 r1 (Heap.IsSliceOf.new ..) pl pu q3
  show wpAny (model X.prog X.w) X.A (subscriptTail e (.Slice lo hi none p2) v (.ref s3.heap.objs.size)) (EP X pins σ Q) X.xe { s3 with heap := s3.heap.push { cls := .type "slice", data := .fields #[vl, vu, .none] } }
  exact tail_any (ops := [.ref s3.heap.objs.size, v]) ht hT hg (by with_unfolding_all rfl)
/-- the items of xs[lo:hi] -/
def cutV (xs : List V) (lo hi : Option Int) : List V := (xs.drop (HT.sIx xs.length 0 lo)).take (HT.sIx xs.length xs.length hi - HT.sIx xs.length 0 lo)
theorem cutV_length (xs : List V) (lo hi : Option Int) : (cutV xs lo hi).length ≤ xs.length := by
  unfold cutV
  rw [List.length_take, List.length_drop]
  omega
/-! ### t < u, t + u -/
end
end L2
namespace L2
open PySem PySem.Spec PyProof.Rows
/-! ### places -/
/-- the place that an index of any sign means -/
def ixN (n : Nat) (i : Int) : Option Nat := if 0 ≤ i then (if i < n then some i.toNat else none) else if -(n : Int) ≤ i then some (i + n).toNat else none
def atI {α : Type} (xs : List α) (i : Int) : Option α := (ixN xs.length i).bind fun j => xs[j]?
theorem ixN_seq {n : Nat} {i : Int} {j : Nat} (h : ixN n i = some j) : seqIndex? i n = some j ∧ j < n ∧ -(n : Int) ≤ i ∧ i < n := by
  unfold ixN at h
  by_cases h0 : 0 ≤ i
  · rw [if_pos h0] at h
    by_cases h1 : i < n
    · rw [if_pos h1] at h
      have e : i.toNat = j := Option.some.inj h
      exact ⟨by rw [seqIndex_of h0 h1, e], by omega, by omega, h1⟩
    · rw [if_neg h1] at h; cases h
  · rw [if_neg h0] at h
    by_cases h1 : -(n : Int) ≤ i
    · rw [if_pos h1] at h
      have e : (i + n).toNat = j := Option.some.inj h
      exact ⟨by rw [seqIndex_neg (by omega) h1, e], by omega, h1, by omega⟩
    · rw [if_neg h1] at h; cases h
theorem atI_get {α : Type} {xs : List α} {i : Int} {v : α} (h : atI xs i = some v) : ∃ j, seqIndex? i xs.length = some j ∧ xs[j]? = some v ∧ j < xs.length ∧ -(xs.length : Int) ≤ i ∧ i < xs.length := by
  unfold atI at h
  cases e : ixN xs.length i with
  | none => rw [e] at h; cases h
  | some j =>
    rw [e] at h
    obtain ⟨h1, h2, h3, h4⟩ := ixN_seq e
    exact ⟨j, h1, h, h2, h3, h4⟩
theorem atI_nat {α : Type} {xs : List α} {j : Nat} {v : α} (h : xs[j]? = some v) : atI xs (j : Int) = some v := by
  have hj : j < xs.length := (List.getElem?_eq_some_iff.mp h).1
  have e : ixN xs.length (j : Int) = some j := by
    unfold ixN
    rw [if_pos (by omega), if_pos (by omega)]; simp
  unfold atI; rw [e]; exact h
/-! ### what may be subscripted -/
/-- what stands as an index of a plain subscript -/
def PlainIx (b : Expr) : Prop := ∀ o i, subscripted b false o i = operate [o, i] (getItem o i)
/-- a subscript by values -/
def IxR (X : Cx) (r : R2) : Prop :=
  ∀ (value slice : Expr) (pins : List (Addr × Obj)) (s : Shared) (σ : St) (H : Hp) (x y : V) (v u : Value) (Q : VK), Inv X pins σ H s → RelV x v → RelV y u → r x y H Q →
    subscripted slice false v u = operate [v, u] (getItem v u) → wpAny (model X.prog X.w) X.A (subscriptTail value slice v u) (EP X pins σ Q) X.xe s
/-- a call of a builtin's method by values: the receiver, the arguments -/
def MtR (X : Cx) (id : String) (r : V → List V → Hp → VK → Prop) : Prop :=
  ∀ (pins : List (Addr × Obj)) (s : Shared) (σ : St) (H : Hp) (x : V) (xs : List V) (v : Value) (us : List Value) (Q : VK), Inv X pins σ H s → RelV x v → Vals xs us → r x xs H Q →
    wpAny (model X.prog X.w) X.A (call (.builtin id) (v :: us)) (EP X pins σ Q) X.xe s
section
variable {X : Cx} {a b : Expr} {ta tb : TE} {pos : Pos}
/-- a[b] -/
theorem pe_ix {r : R2} (hr : IxR X r) (ha : PE X a ta) (hb : PE X b tb) (hs : PlainIx b) : PE X (.Subscript a b pos) (tOp r ta tb) := by
  intro pins s σ H Q I h
  exact Subscript_ (binT ha hb I h fun v u s2 x y H2 I2 rx ry q => hr a b pins s2 σ H2 x y v u Q I2 rx ry q (hs _ _))
def rIxL (K : PySem.W.Frag) : R2 := fun x y H Q => ∃ p xs i v, x = .ref p ∧ y = .int i ∧ SqL K H p xs ∧ atI xs i = some v ∧ Q v H
def rIxT (K : PySem.W.Frag) : R2 := fun x y H Q => ∃ p xs i v, x = .ref p ∧ y = .int i ∧ SqT K H p xs ∧ atI xs i = some v ∧ Q v H
theorem ix_list : IxR X (rIxL X.K) := by
  intro value slice pins s σ H x y v u Q I rx ry h hs
  obtain ⟨p, xs, i, z, rfl, rfl, hq, he, q⟩ := h
  cases rx
  obtain ⟨t, rfl⟩ := ry
  obtain ⟨its, r, pl, hz⟩ := I.list hq
  obtain ⟨j, h1, h2, h3, h4, h5⟩ := atI_get he
  obtain ⟨w, ew, rw'⟩ := r.get h2
  have hl := r.length
  have hn := line63
  have fin : EP X pins σ Q w s := ⟨z, H, I, rw', q⟩
  by_cases h0 : 0 ≤ i
  · have hj : i.toNat = j := by
      rw [seqIndex_of h0 h5] at h1
      exact Option.some.inj h1
    exact item_listR pl.isList h0 (by omega) (by rw [hj]; simpa using ew) fin hs
  · have hj : (i + (its.toArray.size : Int)).toNat = j := by
      rw [seqIndex_neg (by omega) h4] at h1
      rw [List.size_toArray, ← hl]
      exact Option.some.inj h1
    exact subscriptTail_builtinR (x := w) pl.isList.typeIs slot_list_getitem.lookup
      (wpAny_getItem_list_neg (Q := fun r s' => r = w ∧ EP X pins σ Q r s') pl.isList (by omega) (by rw [List.size_toArray] <;> omega) (by omega) (by rw [hj]; simpa using ew) ⟨rfl, fin⟩) hs
theorem ix_tup : IxR X (rIxT X.K) := by
  intro value slice pins s σ H x y v u Q I rx ry h hs
  obtain ⟨p, xs, i, z, rfl, rfl, hq, he, q⟩ := h
  cases rx
  obtain ⟨t, rfl⟩ := ry
  obtain ⟨its, r, pl, hz⟩ := I.tuple hq
  obtain ⟨j, h1, h2, h3, h4, h5⟩ := atI_get he
  obtain ⟨w, ew, rw'⟩ := r.get h2
  have hl := r.length
  have hn := line63
  have fin : EP X pins σ Q w s := ⟨z, H, I, rw', q⟩
  exact subscriptTail_builtinR (x := w) pl.typeIs slot_tuple_getitem.lookup
    (getItem_tuple (j := j) (Q := fun r s' => r = w ∧ EP X pins σ Q r s') pl (by omega) (by omega) (by rw [List.size_toArray, ← hl]; exact h1) (by simpa using ew) ⟨rfl, fin⟩) hs
/-! ### xs[i] = v, any sign -/
/-! ### slices -/
theorem slice_bounds (lo hi : Option Int) (n : Nat) : (sliceBounds lo hi none n).1 = ((HT.sIx n 0 lo : Nat) : Int) ∧ (sliceBounds lo hi none n).2.1 = ((HT.sIx n n hi : Nat) : Int) ∧ (sliceBounds lo hi none n).2.2 = 1 := by
  refine ⟨?_, ?_, rfl⟩
  · cases lo with
    | none => simp [sliceBounds, HT.sIx]
    | some i =>
      simp only [sliceBounds, HT.sIx, Option.getD_none, show (1 : Int) > 0 by decide, if_true]
      by_cases h : i < 0
      · simp only [h, if_true] <;> omega
      · simp only [h, if_false] <;> omega
  · cases hi with
    | none => simp [sliceBounds, HT.sIx]
    | some i =>
      simp only [sliceBounds, HT.sIx, Option.getD_none, show (1 : Int) > 0 by decide, if_true]
      by_cases h : i < 0
      · simp only [h, if_true] <;> omega
      · simp only [h, if_false] <;> omega
theorem slicePick_cut (its : List Value) (lo hi : Option Int) : slicePick its.toArray lo hi none = ((its.drop (HT.sIx its.length 0 lo)).take (HT.sIx its.length its.length hi - HT.sIx its.length 0 lo)).toArray := by
  obtain ⟨h1, h2, h3⟩ := slice_bounds lo hi its.toArray.size
  unfold slicePick
  rw [h1, h2, h3]
  simp only [sliceRange_one, pick_run, List.size_toArray] <;> rfl
/-- xs[lo:hi] of a list: a new list -/
def rSlL (K : PySem.W.Frag) : V → Option Int → Option Int → Hp → VK → Prop := fun x lo hi H Q => ∃ a xs, x = .ref a ∧ SqL K H a xs ∧ ∀ p, H p = none → Q (.ref p) (upd H p (.lst (cutV xs lo hi)))
theorem sl_list : SlR X (rSlL X.K) := by
  intro pins s σ H x v vl vu lo hi sl Q I rx hs pl pu h
  obtain ⟨a, xs, rfl, hx, q⟩ := h
  cases rx
  obtain ⟨its, r, ht, hz⟩ := I.list hx
  have hlen := r.length
  refine ⟨"list", _, slot_list_getitem.lookup, ht.isList.typeIs, ?_⟩
  refine wpAny_getItem_list_slice ht.isList hs pl pu .none (by simp) ?_ (by rw [List.size_toArray] <;> omega)
  rw [slicePick_cut, ← hlen]
  refine ⟨.ref s.heap.objs.size, _, I.laid (t' := s.toks) (o := .lst (cutV xs lo hi)) (fun b ob q => Heap.get?_push_of_some _ q) (Nat.le_refl _) ?_, rfl, q _ (I.hok.fresh (Nat.le_refl _))⟩
  exact ⟨Nat.le_trans (cutV_length xs lo hi) hz, _, 0, (r.drop (HT.sIx xs.length 0 lo)).take (HT.sIx xs.length xs.length hi - HT.sIx xs.length 0 lo), Heap.get?_push_size _ rfl⟩
/-! ### in, not in: flat items -/
def flatV : V → Bool
  | .non => true
  | .bl _ => true
  | .int _ => true
  | .str _ => true
  | _ => false
/-- == of flat values -/
def eqV : V → V → Bool
  | .non, .non => true
  | .bl a, .bl b => a == b
  | .bl a, .int b => (if a then 1 else 0) == b
  | .int a, .bl b => a == (if b then 1 else 0)
  | .int a, .int b => a == b
  | .str a, .str b => a == b
  | _, _ => false
theorem eqAt_V {A : Around} {s : Shared} {y x : V} {u v : Value} (ry : RelV y u) (rx : RelV x v) (fy : flatV y = true) (fx : flatV x = true) : SeqAt.EqAt A s u v (eqV y x) := by
  cases y with
  | non =>
    cases ry
    cases x with
    | non => cases rx; exact SeqAt.EqAt.same _
    | bl b => cases rx; exact SeqAt.EqAt.none_bool b
    | int b => obtain ⟨t, rfl⟩ := rx; exact SeqAt.EqAt.none_int b t
    | str b => obtain ⟨t, rfl⟩ := rx; exact SeqAt.EqAt.none_str b t
    | _ => exact absurd (show false = true from fx) Bool.false_ne_true
  | bl a =>
    cases ry
    cases x with
    | non => cases rx; exact SeqAt.EqAt.bool_none a
    | bl b => cases rx; exact SeqAt.EqAt.bool_bool a b
    | int b => obtain ⟨t, rfl⟩ := rx; exact SeqAt.EqAt.bool_int a b t
    | str b => obtain ⟨t, rfl⟩ := rx; exact SeqAt.EqAt.bool_str a b t
    | _ => exact absurd (show false = true from fx) Bool.false_ne_true
  | int a =>
    obtain ⟨t', rfl⟩ := ry
    cases x with
    | non => cases rx; exact SeqAt.EqAt.int_none a t'
    | bl b => cases rx; exact SeqAt.EqAt.int_bool a t' b
    | int b => obtain ⟨t, rfl⟩ := rx; exact SeqAt.EqAt.int_int a t' b t
    | str b => obtain ⟨t, rfl⟩ := rx; exact SeqAt.EqAt.int_str a t' b t
    | _ => exact absurd (show false = true from fx) Bool.false_ne_true
  | str a =>
    obtain ⟨t', rfl⟩ := ry
    cases x with
    | non => cases rx; exact SeqAt.EqAt.str_none a t'
    | bl b => cases rx; exact SeqAt.EqAt.str_bool a t' b
    | int b => obtain ⟨t, rfl⟩ := rx; exact SeqAt.EqAt.str_int a t' b t
    | str b => obtain ⟨t, rfl⟩ := rx; exact SeqAt.EqAt.str_str a t' b t
    | _ => exact absurd (show false = true from fx) Bool.false_ne_true
  | _ => exact absurd (show false = true from fy) Bool.false_ne_true
/-- the items' answers, read off the values (a value's own answer does not lean on its token) -/
def eqU (x : V) (u : Value) : Bool := match u with
  | .none => eqV .non x
  | .bool b => eqV (.bl b) x
  | .int i _ => eqV (.int i) x
  | .str z _ => eqV (.str z) x
  | _ => false
theorem eqU_of {x y : V} {u : Value} (r : RelV y u) (f : flatV y = true) : eqU x u = eqV y x := by
  cases y with
  | non => cases r; rfl
  | bl b => cases r; rfl
  | int i => obtain ⟨t, rfl⟩ := r; rfl
  | str z => obtain ⟨t, rfl⟩ := r; rfl
  | _ => exact absurd (show false = true from f) Bool.false_ne_true
theorem any_eqU {x : V} : ∀ {xs : List V} {us : List Value}, Vals xs us → xs.all flatV = true → us.any (eqU x) = xs.any fun y => eqV y x
  | _, _, .nil, _ => rfl
  | y :: xs, u :: us, .cons r t, f => by
    rw [List.all_cons, Bool.and_eq_true] at f
    rw [List.any_cons, List.any_cons, eqU_of r f.1, any_eqU t f.2]
theorem mem_eqAt {A : Around} {s : Shared} {x : V} {v : Value} (rx : RelV x v) (fx : flatV x = true) : ∀ {xs : List V} {us : List Value}, Vals xs us → xs.all flatV = true → ∀ u ∈ us, SeqAt.EqAt A s u v (eqU x u)
  | _, _, .nil, _ => fun u hu => by cases hu
  | y :: xs, u :: us, .cons r t, f => fun u' hu => by
    rw [List.all_cons, Bool.and_eq_true] at f
    rcases List.mem_cons.mp hu with rfl | hu
    · rw [eqU_of r f.1]; exact eqAt_V r rx f.1 fx
    · exact mem_eqAt rx fx t f.2 u' hu
def inV (x : V) (xs : List V) : Bool := xs.any fun y => eqV y x
/-- x in a list or tuple of flat items -/
def rIn (K : PySem.W.Frag) (neg : Bool) : R2 := fun x y H Q => ∃ p xs, y = .ref p ∧ (SqL K H p xs ∨ SqT K H p xs) ∧ flatV x = true ∧ xs.all flatV = true ∧ Q (.bl (if neg then !inV x xs else inV x xs)) H
theorem op_in_seq : OpR X (compareOp .In) (rIn X.K false) := by
  intro pins s σ H x y v u Q I rx ry h
  obtain ⟨p, xs, rfl, hq, fx, fs, q⟩ := h
  cases ry
  rcases hq with hq | hq
  · obtain ⟨its, r, pl, hz⟩ := I.list hq
    refine SeqAt.in_listAt (eqU x) pl.isList (fun w hw => mem_eqAt rx fx r fs w (by simpa using hw)) ⟨.bl _, H, I, rfl, ?_⟩
    rw [show its.toArray.any (eqU x) = its.any (eqU x) by simp, any_eqU r fs]
    exact q
  · obtain ⟨its, r, pl, hz⟩ := I.tuple hq
    refine SeqAt.in_tupleAt (eqU x) pl (fun w hw => mem_eqAt rx fx r fs w (by simpa using hw)) ⟨.bl _, H, I, rfl, ?_⟩
    rw [show its.toArray.any (eqU x) = its.any (eqU x) by simp, any_eqU r fs]
    exact q
/-! ### len, list(x), tuple(x) of any list or tuple that is read -/
theorem call_len_seq : CallR X (.builtin "len") (fun xs H Q => ∃ p ys, xs = [.ref p] ∧ (SqL X.K H p ys ∨ SqT X.K H p ys) ∧ Q (.int ys.length) H) := by
  intro pins s σ H xs us Q I r h
  obtain ⟨p, ys, rfl, hq, q⟩ := h
  obtain ⟨u, rfl, rx⟩ := vals1 r
  cases rx
  have hn := line63
  rcases hq with hq | hq
  · obtain ⟨its, r', pl, hz⟩ := I.list hq
    have hlen := r'.length
    exact Calls.call_len_list pl.isList (by simp only [List.size_toArray] <;> omega) ⟨.int ys.length, H, I.tok _, ⟨s.toks + 1, by rw [List.size_toArray, hlen]⟩, q⟩
  · obtain ⟨its, r', pl, hz⟩ := I.tuple hq
    have hlen := r'.length
    exact len_tuple pl (by simp only [List.size_toArray] <;> omega) ⟨.int ys.length, H, I.tok _, ⟨s.toks + 1, by rw [List.size_toArray, hlen]⟩, q⟩
/-! ### the call of a builtin's method: o.m(..) -/
/-- the value is of that builtin type -/
def tyV (K : PySem.W.Frag) (T : String) (x : V) (H : Hp) : Prop := match x with
  | .str _ => T = "str"
  | .int _ => T = "int"
  | .ref p => (T = "list" ∧ ∃ xs, SqL K H p xs) ∨ (T = "tuple" ∧ ∃ o, K.lookup p = some o ∧ o.cls = .type "tuple" ∧ o.dict = none) ∨
      (T = "dict" ∧ ((∃ kvs, H p = some (.dK kvs)) ∨ ∃ kvs, H p = some (.dT kvs))) ∨ (T = "set" ∧ ∃ S n, H p = some (.set S n))
  | _ => False
theorem tyV_is {pins : List (Addr × Obj)} {σ : St} {H : Hp} {s : Shared} {T : String} {x : V} {v : Value} (I : Inv X pins σ H s) (r : RelV x v) (ty : tyV X.K T x H) :
    s.TypeIs v T ∧ ∀ a, v = .ref a → ∃ ob, s.heap.get? a = some ob ∧ ob.dict = none := by
  cases x with
  | str z =>
    obtain ⟨t, rfl⟩ := r
    cases (show T = "str" from ty)
    exact ⟨typeIs_str s z t, fun _ e => nomatch e⟩
  | int i =>
    obtain ⟨t, rfl⟩ := r
    cases (show T = "int" from ty)
    exact ⟨typeIs_int s i t, fun _ e => nomatch e⟩
  | ref p =>
    cases r
    rcases ty with ⟨rfl, xs, hq⟩ | ⟨rfl, o, hk, hc, hd⟩ | ⟨rfl, hk⟩ | ⟨rfl, S, n, hk⟩
    · obtain ⟨its, _, pl, _⟩ := I.list hq
      refine ⟨pl.isList.typeIs, fun a e => ?_⟩
      cases e
      obtain ⟨o, n, e, c, hd, _⟩ := pl
      exact ⟨o, e, hd⟩
    · refine ⟨⟨o, I.kIn p o hk, hc⟩, fun a e => ?_⟩
      cases e
      exact ⟨o, I.kIn _ o hk, hd⟩
    · have z : ∃ o, s.heap.get? p = some o ∧ o.ExactDict := by
        rcases hk with ⟨kvs, hk⟩ | ⟨kvs, hk⟩
        · obtain ⟨_, _, _, _, o, _, _, e, ex, _⟩ := I.hok p _ hk
          exact ⟨o, e, ex⟩
        · obtain ⟨_, _, _, _, o, _, _, e, ex, _⟩ := I.hok p _ hk
          exact ⟨o, e, ex⟩
      obtain ⟨o, e, ex⟩ := z
      refine ⟨⟨o, e, ex.1⟩, fun a e2 => ?_⟩
      cases e2
      exact ⟨o, e, ex.2.1⟩
    · obtain ⟨o, _, _, _, e, ex, _⟩ := I.hok p _ hk
      refine ⟨⟨o, e, ex.1⟩, fun a e2 => ?_⟩
      cases e2
      exact ⟨o, e, ex.2.1⟩
  | _ => exact False.elim ty
def tBM (K : PySem.W.Frag) (T : String) (r : V → List V → Hp → VK → Prop) (to : TE) (t : TA) : TE := fun σ H Q => to σ H fun x H1 => tyV K T x H1 ∧ t σ H1 fun xs H2 => r x xs H2 Q
variable {o e : Expr} {es : List Expr} {to : TE} {t : TA} {name : Str} {apos cpos : Pos} {T id : String} {r : V → List V → Hp → VK → Prop}
theorem pe_bm (pa : PlainAttrs T) (slot : Slot T name id) (hty : typeOf (.builtin id) = pure (.type "method_descriptor")) (hm : MtR X id r) (ho : PE X o to) (ha : PA X (e :: es) t)
    (hbase : attributeBase o name X.env (eval o X.env) = eval o X.env := by rfl)
    (hfew : ((backTo cpos (starEach (e :: es) X.env)).all (fun x => !x.1) && (backToKw cpos (keywordEach [] X.env)).all (fun x => x.1.isSome)
      && decide ((e :: es).length + ([] : List Keyword).length + (if ([] : List Keyword).isEmpty then 0 else 1) < 30)) = true := by rfl)
    (hline : (apos.endLine == cpos.line) = true := by rfl) (hs : starEach (e :: es) X.env = (false, eval e X.env) :: starEach es X.env := by rfl) (hplain : (backTo cpos (starEach es X.env)).any (·.1) = false := by rfl) :
    PE X (.Call (.Attribute o name apos) (e :: es) [] cpos) (tBM X.K T r to t) := by
  intro pins s σ H Q I h
  refine wpAny_Call_method_late hbase hfew hline rfl (thn (ho pins s σ H _ I h) fun v s1 ⟨x, H1, I1, r1, ty, q1⟩ => ?_)
  obtain ⟨h1, h2⟩ := tyV_is I1 r1 ty
  refine ⟨T, id, pa, slot, hty, h1, h2, ?_⟩
  have hA := ha cpos pins s1 σ H1 _ I1 q1
  rw [hs] at hA ⊢
  refine Calls.callWith_builtin (by show (false || (backTo cpos (starEach es X.env)).any (·.1)) = false; rw [hplain] <;> rfl) (Calls.evalArgs_plain ?_)
  exact thn hA fun us s2 ⟨vs, H2, I2, r2, q2⟩ => hm pins s2 σ H2 x vs v us Q I2 r1 r2 q2
/- xs.append(e), list.index on a module's tuple .. are MtR facts of 06m -/
end
end L2
namespace L2
open PySem PySem.Spec PyProof.Rows
def MtM (X : Cx) (id : String) (r : V → List V → Hp → VK → Prop) : Prop :=
  ∀ (pins : List (Addr × Obj)) (s : Shared) (σ : St) (H : Hp) (x : V) (xs : List V) (v : Value) (us : List Value) (Q : VK), Inv X pins σ H s → RelV x v → Vals xs us → r x xs H Q →
    wpAny (model X.prog X.w) X.A (call (.builtin id) (v :: us)) (EP X pins σ Q) X.xe s
/-! ### lists of values -/
theorem Vals.one : ∀ {x : V} {us : List Value}, Vals [x] us → ∃ u, us = [u] ∧ RelV x u
  | _, _, .cons r .nil => ⟨_, rfl, r⟩
section
variable {X : Cx} {pins : List (Addr × Obj)} {σ : St} {H : Hp} {s : Shared} {l b : Addr} {xs ys zs : List V}
/-! ### the two steps: a tracked list is rewritten, a new list is laid -/
theorem Inv.lset {its its' : List Value} {n : Nat} {f : Array Value → Array Value} {t' : Nat} (I : Inv X pins σ H s) (hH : H l = some (.lst xs))
    (e : s.heap.get? l = some { cls := .type "list", data := .seq its.toArray n }) (hf : f its.toArray = its'.toArray) (hv : Vals ys its') (hz : ys.length ≤ sizeLine) :
    Inv X pins σ (upd H l (.lst ys)) { s with heap := s.heap.update l (Obj.mapSeq f), toks := t' } := by
  have q := PySem.IsL.update e f
  rw [hf] at q
  refine I.write (x := l) (e := l) (by rw [hH]; exact trivial) (.inl rfl) (fun b' u hb hu => (Heap.get?_update_other s.heap (Obj.mapSeq f) (Ne.symm hb)).trans hu) ⟨_, q⟩ ?_
  exact ⟨hz, its', _, hv, q⟩
theorem Inv.lnew {its : List Value} {t' : Nat} (I : Inv X pins σ H s) (hv : Vals ys its) (hz : ys.length ≤ sizeLine) :
    Inv X pins σ (upd H s.heap.objs.size (.lst ys)) { s with heap := s.heap.push { cls := .type "list", data := .seq its.toArray }, toks := t' } :=
  I.laid (fun _ _ q => Heap.get?_push_of_some _ q) (Nat.le_refl _) ⟨hz, its, 0, hv, Heap.get?_push_size _ rfl⟩
theorem Inv.fresh (I : Inv X pins σ H s) : H s.heap.objs.size = none := I.hok.fresh (Nat.le_refl _)
theorem Inv.lstM (I : Inv X pins σ H s) (hH : H l = some (.lst xs)) : xs.length ≤ sizeLine ∧ ∃ (its : List Value) (n : Nat), Vals xs its ∧ xs.length = its.length ∧ s.heap.get? l = some { cls := .type "list", data := .seq its.toArray n } := by
  obtain ⟨z, its, n, r, e⟩ := I.hok l _ hH
  exact ⟨z, its, n, r, r.length, e⟩
theorem notLongL {n : Nat} (h : n ≤ sizeLine) : Builtin.List.listTooLong n = false := by
  unfold Builtin.List.listTooLong
  exact decide_eq_false (by omega)
end
section
variable {X : Cx}
/-! ### methods -/
def rAppend : V → List V → Hp → VK → Prop := fun x vs H Q => ∃ l xs y, x = .ref l ∧ vs = [y] ∧ H l = some (.lst xs) ∧ xs.length < sizeLine ∧ Q .non (upd H l (.lst (xs ++ [y])))
theorem mt_append : MtM X "list.append" rAppend := by
  intro pins s σ H x vs v us Q I rx rv h
  obtain ⟨l, xs, y, rfl, rfl, hH, hz, q⟩ := h
  cases rx
  obtain ⟨u, rfl, ru⟩ := rv.one
  obtain ⟨z, its, n, r, hl, e⟩ := I.lstM hH
  refine call_meets F.slot_list_append ⟨_, e, rfl⟩ F.entry_list_append (F.args_list_append_2 _ _) (PySem.list_append l its.toArray n u (by rw [List.size_toArray]; omega)) ⟨e, ?_⟩
  refine ⟨.non, _, I.lset (its' := its ++ [u]) hH e (by simp) (r.append (.cons ru .nil)) ?_, rfl, q⟩
  rw [List.length_append, List.length_singleton]
  omega
def rExtend : V → List V → Hp → VK → Prop := fun x vs H Q => ∃ l b xs zs, x = .ref l ∧ vs = [.ref b] ∧ H l = some (.lst xs) ∧ H b = some (.lst zs) ∧ xs.length + zs.length ≤ sizeLine ∧ Q .non (upd H l (.lst (xs ++ zs)))
theorem mt_extend : MtM X "list.extend" rExtend := by
  intro pins s σ H x vs v us Q I rx rv h
  obtain ⟨l, b, xs, zs, rfl, rfl, hH, hB, hz, q⟩ := h
  cases rx
  obtain ⟨u, rfl, ru⟩ := rv.one
  cases ru
  obtain ⟨z, its, n, r, hl, e⟩ := I.lstM hH
  obtain ⟨z2, its2, n2, r2, hl2, e2⟩ := I.lstM hB
  have hsz : its.toArray.size + its2.toArray.size ≤ sizeLine := by rw [List.size_toArray, List.size_toArray]; omega
  have hlong : ¬ (!its.toArray.isEmpty && Builtin.List.listTooLong (its.toArray.size + its2.toArray.size)) = true := by
    rw [notLongL hsz, Bool.and_false]
    exact Bool.false_ne_true
  refine call_meets F.slot_list_extend ⟨_, e, rfl⟩ F.entry_list_extend (F.args_list_extend_2 _ _)
    (AutoSeq1.list_extend_list_list_0 l its.toArray n b its2.toArray n2 hlong (by rw [List.size_toArray]; omega) (by omega)) ⟨e, e2, ?_⟩
  refine ⟨.non, _, I.lset (its' := its ++ its2) hH e (by simp) (r.append r2) ?_, rfl, q⟩
  rw [List.length_append]
  omega
/-! ### list + list, list += list, list * int -/
def rCat : R2 := fun x y H Q => ∃ l b xs zs, x = .ref l ∧ y = .ref b ∧ H l = some (.lst xs) ∧ H b = some (.lst zs) ∧ xs.length + zs.length ≤ sizeLine ∧ ∀ p, H p = none → Q (.ref p) (upd H p (.lst (xs ++ zs)))
theorem op_cat : OpR X (binaryOp .Add) rCat := by
  intro pins s σ H x y v u Q I rx ry h
  obtain ⟨l, b, xs, zs, rfl, rfl, hH, hB, hz, q⟩ := h
  cases rx
  cases ry
  obtain ⟨z, its, n, r, hl, e⟩ := I.lstM hH
  obtain ⟨z2, its2, n2, r2, hl2, e2⟩ := I.lstM hB
  refine PySem.P.add_list e e2 ?_ (by rw [List.size_toArray, List.size_toArray]; omega)
  have ea : its.toArray ++ its2.toArray = (its ++ its2).toArray := by simp
  rw [ea]
  exact ⟨.ref _, _, I.lnew (t' := s.toks) (r.append r2) (by rw [List.length_append]; omega), rfl, q _ I.fresh⟩
/-! ### del xs[i] -/
end
/-! ### xs[a:b] = ys -/
section
variable {prog : Program} {w : World} {A : Around} {E : Value → Shared → Prop} {s : Shared}
end
section
variable {X : Cx}
end
end L2
namespace L2
open PySem PySem.Spec PyProof.Rows
theorem Vals.ints : ∀ {ns : List Int} {us : List Value}, Vals (ns.map V.int) us → IntsAre us ns
  | [], us, h => by
    rw [List.map_nil] at h
    cases h
    exact IntsAre.nil
  | n :: ns, us, h => by
    rw [List.map_cons] at h
    cases h with
    | cons r t =>
      obtain ⟨k, rfl⟩ := r
      exact IntsAre.cons n k (Vals.ints t)
theorem vals_of_ints : ∀ {us : List Value} {ns : List Int}, IntsAre us ns → Vals (ns.map V.int) us
  | _, _, .nil => by rw [List.map_nil]; exact Paired.nil
  | _, _, .cons n t h => by rw [List.map_cons]; exact Paired.cons (show RelV (V.int n) (Value.int n t) from ⟨t, rfl⟩) (vals_of_ints h)
theorem Vals.bls : ∀ {bs : List Bool} {us : List Value}, Vals (bs.map V.bl) us → us = bs.map Value.bool
  | [], us, h => by
    rw [List.map_nil] at h
    cases h
    rfl
  | b :: bs, us, h => by
    rw [List.map_cons] at h
    cases h with
    | cons r t =>
      cases r
      rw [Vals.bls t, List.map_cons]
theorem Vals.ref1 {a : Addr} {us : List Value} (r : Vals [V.ref a] us) : us = [Value.ref a] := by
  cases r with
  | cons r t =>
    cases t
    cases r
    rfl
/-! ### the library's walks over a list of ints, kept objects alone -/
section
variable {prog : Program} {w : World} {A : Around} {E : Value → Shared → Prop} {s : Shared} {l : Addr} {its : List Value} {ns : List Int} {Q : Value → Shared → Prop}
theorem sum_raw (hh : A.handled = none) (hl : s.heap.IsList l its.toArray) (hi : IntsAre its ns)
    (h : ∀ h' tk t', (∀ b o, s.heap.get? b = some o → h'.get? b = some o) → Q (.int ns.sum t') { s with heap := h', toks := tk }) : wpAny (model prog w) A (call (.builtin "sum") [.ref l]) Q E s := by
  obtain ⟨xs, e⟩ := hi.allInts.items
  have hn : numsOf (intItems xs).toList = ns := by rw [← e]; exact hi.numsOf
  rw [nums_intItems] at hn
  rw [e] at hl
  refine PySem.sum_intListG hh hl fun h' tk t' hk => ?_
  have := h h' tk t' hk
  rw [preSum_eq, List.take_of_length_le (by simp), hn]; exact this
theorem max_raw (hh : A.handled = none) (hl : s.heap.IsList l its.toArray) (hi : IntsAre its ns) (hne : 0 < ns.length)
    (h : ∀ h' tk M t', (∀ b o, s.heap.get? b = some o → h'.get? b = some o) → M ∈ ns → (∀ a, a ∈ ns → a ≤ M) → Q (.int M t') { s with heap := h', toks := tk }) : wpAny (model prog w) A (call (.builtin "max") [.ref l]) Q E s := by
  obtain ⟨xs, e⟩ := hi.allInts.items
  have hn : numsOf (intItems xs).toList = ns := by rw [← e]; exact hi.numsOf
  rw [nums_intItems] at hn
  subst hn
  rw [e] at hl
  have hsz : 0 < xs.size := by simpa using hne
  refine PySem.max_intList hh hl hsz fun v h' tk hv hk => ?_
  obtain ⟨t, rfl⟩ := intItems_at hv
  obtain ⟨h1, h2⟩ := argBest_gt (numAt xs) (xs.size - 1)
  refine h h' tk _ t hk ?_ fun a ha => ?_
  · rw [numAt_eq]; exact PySem.getD_mem (by rw [List.length_map, Array.length_toList]; omega)
  · obtain ⟨j, hj, rfl⟩ := mem_getD ha
    rw [List.length_map, Array.length_toList] at hj
    rw [← numAt_eq]; exact h2 j (by omega)
end
/-! ### the calls, by values (CallR of 03t; MtR of 06l) -/
section
variable {X : Cx}
/-- sum(xs) of a list of ints -/
def rSum (K : PySem.W.Frag) : List V → Hp → VK → Prop := fun vs H Q => ∃ (a : Addr) (ns : List Int), vs = [V.ref a] ∧ SqL K H a (ns.map V.int) ∧ Q (.int ns.sum) H
/-- max(xs), min(xs) of a list of ints -/
def rMax (K : PySem.W.Frag) : List V → Hp → VK → Prop := fun vs H Q => ∃ (a : Addr) (ns : List Int), vs = [V.ref a] ∧ SqL K H a (ns.map V.int) ∧ 0 < ns.length ∧ ∀ m, m ∈ ns → (∀ y, y ∈ ns → y ≤ m) → Q (.int m) H
theorem cr_sum (hc : X.calm = true) : CallR X (.builtin "sum") (rSum X.K) := by
  intro pins s σ H vs us Q I r h
  obtain ⟨a, ns, rfl, hs, q⟩ := h
  obtain ⟨its, rv, hl, _⟩ := I.list hs
  rw [Vals.ref1 r]
  exact sum_raw (I.ok.hd hc) hl.isList rv.ints fun h' tk t' hk => ⟨.int _, H, I.kept hk, ⟨_, rfl⟩, q⟩
theorem cr_max (hc : X.calm = true) : CallR X (.builtin "max") (rMax X.K) := by
  intro pins s σ H vs us Q I r h
  obtain ⟨a, ns, rfl, hs, hne, q⟩ := h
  obtain ⟨its, rv, hl, _⟩ := I.list hs
  rw [Vals.ref1 r]
  exact max_raw (I.ok.hd hc) hl.isList rv.ints hne fun h' tk m t' hk h1 h2 => ⟨.int _, H, I.kept hk, ⟨_, rfl⟩, q m h1 h2⟩
/-! sorted, sort (fewer than 64 items: the library's own bound) -/
def rSorted (K : PySem.W.Frag) : List V → Hp → VK → Prop := fun vs H Q => ∃ (a : Addr) (ns : List Int), vs = [V.ref a] ∧ SqL K H a (ns.map V.int) ∧ ns.length < 64 ∧
  ∀ (ns' : List Int) (p : Addr), ns'.Perm ns → ns'.Pairwise (· ≤ ·) → H p = none → Q (.ref p) (upd H p (.lst (ns'.map V.int)))
theorem small64 {n : Nat} (h : n < 64) : n ≤ sizeLine := by rw [sizeLine_eq]; omega
theorem cr_sorted : CallR X (.builtin "sorted") (rSorted X.K) := by
  intro pins s σ H vs us Q I r h
  obtain ⟨a, ns, rfl, hs, h64, q⟩ := h
  obtain ⟨its, rv, hl, _⟩ := I.list hs
  rw [Vals.ref1 r]
  have hi := rv.ints
  refine PyProof.Rows.sorted_ints hl.isList hi (by rw [hi.length]; exact h64) fun out ns' h1 h2 h3 => ?_
  obtain ⟨ep, he'⟩ := PyProof.Rows.sortedAll_at s.heap its out
  have hlen : (ns'.map V.int).length ≤ sizeLine := by rw [List.length_map, h2.length_eq]; exact small64 h64
  exact ⟨.ref _, upd H (s.heap.objs.size + 1) (.lst (ns'.map V.int)), I.laid (t' := s.toks) (fun _ _ => PyProof.Rows.sortedAll_old) (Nat.le_succ _) ⟨hlen, out.toList, ep, vals_of_ints h1, he'⟩, rfl, q ns' _ h2 h3 (I.hok.fresh (Nat.le_succ _))⟩
end
/-! ### list.index, flat items -/
section
variable {X : Cx}
end
/-! ### type(x) of an own instance; is, is not of a module's class -/
section
variable {X : Cx}
end
/-! ### any(xs), all(xs) of a list of bools -/
theorem iter_any {prog : Program} {w : World} {A : Around} {E : Value → Shared → Prop} {s : Shared} {l : Addr} {items : Array Value} {Q : Value → Shared → Prop} (hl : s.heap.IsList l items)
    (h : ∀ s₂ : Shared, s₂ = { s with heap := s.heap.push { cls := .type "list_iterator", data := .fields #[.ref l, .int 0 0] } } →
      (s₂.heap.IsListIter s.heap.objs.size l 0 ∧ s₂.heap.IsList l items) → l ≠ s.heap.objs.size → Q (.ref s.heap.objs.size) s₂) : wpAny (model prog w) A (pyIter (.ref l)) Q E s := by
  have hlt : l < s.heap.objs.size := by obtain ⟨_, e, _⟩ := hl; exact Heap.lt_size e
  exact wpAny_pyIter_list hl (h _ rfl ⟨⟨_, Heap.get?_push_size _ rfl, rfl, rfl⟩, hl.push _⟩ (Nat.ne_of_lt hlt))
theorem truth_bools {prog : Program} {w : World} {A : Around} {bs : List Bool} {its : List Value} (e : its = bs.map Value.bool) :
    TruthOf prog w A (fun i v => its.toArray[i]? = some v) (fun i => bs.getD i false) := fun i v s Q E hv hq => by
  have hv' : its[i]? = some v := by simpa using hv
  rw [e, List.getElem?_map] at hv'
  obtain ⟨b, hb, rfl⟩ := Option.map_eq_some_iff.mp hv'
  have hg : bs.getD i false = b := by rw [List.getD_eq_getElem?_getD, hb] <;> rfl
  have hq' : Q (bs.getD i false) s := hq
  rw [hg] at hq'
  exact wpAny_truthy_bool hq'
theorem all_range : ∀ bs : List Bool, (List.range bs.length).all (fun i => bs.getD i false) = bs.all id
  | [] => rfl
  | b :: bs => by
    rw [List.length_cons, List.range_succ_eq_map, List.all_cons, List.all_map, List.all_cons, ← all_range bs]
    all_goals rfl
section
variable {X : Cx}
def rAll (K : PySem.W.Frag) : List V → Hp → VK → Prop := fun vs H Q => ∃ (a : Addr) (bs : List Bool), vs = [V.ref a] ∧ SqL K H a (bs.map V.bl) ∧ Q (.bl (bs.all id)) H
theorem cr_all (hc : X.calm = true) : CallR X (.builtin "all") (rAll X.K) := by
  intro pins s σ H vs us Q I r h
  obtain ⟨a, bs, rfl, hs, q⟩ := h
  obtain ⟨its, rv, hl, _⟩ := I.list hs
  rw [Vals.ref1 r]
  have hb := rv.bls
  refine call_all_walk (iter_any hl.isList fun s₂ e2 st hne => ?_)
  subst e2
  refine ⟨_, _, _, _, _, _, _, rfl, Walks.list (A := X.A.in1) (I.ok.hd hc) _ a hne its.toArray, st, truth_bools hb, fun h' tk hk => ?_⟩
  refine ⟨.bl _, H, I.kept fun b o eo => hk b o (fun hmem => ?_) (Heap.get?_push_of_some _ eo), ?_, q⟩
  · rcases List.mem_cons.mp hmem with e1 | hmem
    · exact absurd (e1 ▸ Heap.lt_size eo) (Nat.lt_irrefl _)
    · cases hmem
  · show Value.bool _ = Value.bool _
    rw [← all_range, hb, List.size_toArray, List.length_map]
end
/-! ### == and != of data at any depth: none, bools, ints, texts, lists, tuples -/
section
variable {X : Cx} {pins : List (Addr × Obj)} {σ : St} {H : Hp} {s : Shared}
end
section
variable {X : Cx}
end
end L2
namespace L2
open PySem PySem.Spec PyProof.Rows
abbrev CellAt (h : Heap) (c : Addr) (v : Option Value) : Prop := h.IsCell c v
def relS (scope sc : Scope) : Scope :=
  { scope with names := scope.names.map fun (n, k) => if (k == .free && sc.kind == .function && sc.names.lookup n == some .cell) then (n, .cell) else (n, k) }
def cloFrom (cells : List (Str × Addr)) : List (Str × NameKind) → List (Str × Addr) → List (Str × Addr)
  | [], acc => acc
  | (n, k) :: r, acc => if k == .free then cloFrom cells r ((n, (cells.lookup n).getD 0) :: acc) else cloFrom cells r acc
theorem closure_loop (env : Env) (f : Str × NameKind → List (Str × Addr) → Sem (ForInStep (List (Str × Addr))))
    (hf : ∀ n k c, f (n, k) c = if k == .free then (do let a ← cellOf env n; pure (.yield ((n, a) :: c))) else pure (.yield c)) :
    ∀ (names : List (Str × NameKind)) (acc : List (Str × Addr)), (∀ y ∈ names, y.2 = .free → ∃ c, env.cells.lookup y.1 = some c) → forIn names acc f = pure (cloFrom env.cells names acc)
  | [], acc, _ => by rw [List.forIn_nil]; rfl
  | (n, k) :: r, acc, h => by
    rw [List.forIn_cons, hf]
    have ih := fun acc => closure_loop env f hf r acc fun y hy => h y (List.mem_cons_of_mem _ hy)
    unfold cloFrom
    by_cases hk : (k == NameKind.free) = true
    · rw [if_pos hk, if_pos hk]
      obtain ⟨c, hc⟩ := h (n, k) List.mem_cons_self (by simpa using hk)
      have e : cellOf env n = pure c := by unfold cellOf; rw [hc]
      rw [e]
      have e2 : (env.cells.lookup n).getD 0 = c := by rw [hc]; rfl
      rw [e2]
      exact ih _
    · rw [if_neg hk, if_neg hk]
      exact ih _
theorem closure_ok {scope : Scope} {env : Env} (h : ∀ y ∈ scope.names, y.2 = .free → ∃ c, env.cells.lookup y.1 = some c) : closureFor scope env = pure (cloFrom env.cells scope.names []) := by
  simp only [closureFor]
  rw [closure_loop env _ (fun n k c => rfl) scope.names [] h]
  rfl
theorem mem_lookup {α : Type} : ∀ {l : List (Str × α)} {n : Str} {c : α}, (n, c) ∈ l → ∃ c', l.lookup n = some c'
  | (k, v) :: r, n, c, h => by
    rw [List.lookup_cons]
    cases hb : n == k with
    | true => exact ⟨_, rfl⟩
    | false =>
      rcases List.mem_cons.mp h with e | h
      · cases e; simp at hb
      · exact mem_lookup h
theorem cloFrom_mem {cells : List (Str × Addr)} : ∀ {names : List (Str × NameKind)} {acc : List (Str × Addr)} {n : Str} {c : Addr}, (n, c) ∈ cloFrom cells names acc → (n, c) ∈ acc ∨ ((n, .free) ∈ names ∧ c = (cells.lookup n).getD 0)
  | [], _, _, _, h => .inl h
  | (m, k) :: r, acc, n, c, h => by
    unfold cloFrom at h
    split at h
    · rename_i hk
      have hk : k = .free := by simpa using hk
      rcases cloFrom_mem h with h | ⟨h1, h2⟩
      · rcases List.mem_cons.mp h with e | h
        · cases e; exact .inr ⟨hk ▸ List.mem_cons_self, rfl⟩
        · exact .inl h
      · exact .inr ⟨List.mem_cons_of_mem _ h1, h2⟩
    · rcases cloFrom_mem h with h | ⟨h1, h2⟩
      · exact .inl h
      · exact .inr ⟨List.mem_cons_of_mem _ h1, h2⟩
theorem cloFrom_acc {cells : List (Str × Addr)} : ∀ {names : List (Str × NameKind)} {acc : List (Str × Addr)} {p : Str × Addr}, p ∈ acc → p ∈ cloFrom cells names acc
  | [], _, _, h => h
  | (m, k) :: r, acc, p, h => by
    unfold cloFrom
    split
    · exact cloFrom_acc (List.mem_cons_of_mem _ h)
    · exact cloFrom_acc h
theorem cloFrom_has {cells : List (Str × Addr)} : ∀ {names : List (Str × NameKind)} {acc : List (Str × Addr)} {n : Str}, (n, .free) ∈ names → (n, (cells.lookup n).getD 0) ∈ cloFrom cells names acc
  | (m, k) :: r, acc, n, h => by
    unfold cloFrom
    rcases List.mem_cons.mp h with e | h
    · cases e
      exact cloFrom_acc List.mem_cons_self
    · split
      · exact cloFrom_has h
      · exact cloFrom_has h
theorem cells_mem : ∀ {names : List (Str × NameKind)} {h : Heap} {acc : List (Str × Addr)} {x : Str} {c : Addr}, (x, c) ∈ cellsFrom h.objs.size names acc →
    (x, c) ∈ acc ∨ ((x, .cell) ∈ names ∧ h.objs.size ≤ c ∧ CellAt (pushCells h names) c none)
  | [], _, _, _, _, h => .inl h
  | (n, k) :: r, h, acc, x, c, hm => by
    unfold cellsFrom at hm
    unfold pushCells
    split at hm
    · rename_i hk
      rw [if_pos hk]
      have hk : k = .cell := by simpa using hk
      rw [← Heap.size_push h { cls := .type "cell", data := .cell none }] at hm
      rcases cells_mem hm with hm | ⟨h1, h2, h3⟩
      · rcases List.mem_cons.mp hm with e | hm
        · cases e
          exact .inr ⟨hk ▸ List.mem_cons_self, Nat.le_refl _, _, pushCells_keeps r _ _ _ (Heap.get?_push_size _ rfl), rfl⟩
        · exact .inl hm
      · rw [Heap.size_push] at h2
        exact .inr ⟨List.mem_cons_of_mem _ h1, Nat.le_of_succ_le h2, h3⟩
    · rename_i hk
      rw [if_neg hk]
      rcases cells_mem hm with hm | ⟨h1, h2, h3⟩
      · exact .inl hm
      · exact .inr ⟨List.mem_cons_of_mem _ h1, h2, h3⟩
theorem cells_acc : ∀ {names : List (Str × NameKind)} {n : Nat} {acc : List (Str × Addr)} {p : Str × Addr}, p ∈ acc → p ∈ cellsFrom n names acc
  | [], _, _, _, h => h
  | (m, k) :: r, n, acc, p, h => by
    unfold cellsFrom
    split
    · exact cells_acc (List.mem_cons_of_mem _ h)
    · exact cells_acc h
theorem cells_has : ∀ {names : List (Str × NameKind)} {n : Nat} {acc : List (Str × Addr)} {x : Str}, (x, .cell) ∈ names → ∃ c, (x, c) ∈ cellsFrom n names acc
  | (m, k) :: r, n, acc, x, h => by
    unfold cellsFrom
    rcases List.mem_cons.mp h with e | h
    · cases e
      exact ⟨n, cells_acc List.mem_cons_self⟩
    · split
      · exact cells_has h
      · exact cells_has h
theorem cells_inj : ∀ {names : List (Str × NameKind)} {h : Heap} {acc : List (Str × Addr)} {x y : Str} {c : Addr}, (∀ p ∈ acc, p.2 < h.objs.size) → (∀ x y c, (x, c) ∈ acc → (y, c) ∈ acc → x = y) →
    (x, c) ∈ cellsFrom h.objs.size names acc → (y, c) ∈ cellsFrom h.objs.size names acc → x = y
  | [], _, _, _, _, _, _, hi, h1, h2 => hi _ _ _ h1 h2
  | (n, k) :: r, h, acc, x, y, c, hl, hi, h1, h2 => by
    unfold cellsFrom at h1 h2
    split at h1
    · rename_i hk
      rw [if_pos hk] at h2
      rw [← Heap.size_push h { cls := .type "cell", data := .cell none }] at h1 h2
      refine cells_inj (h := h.push _) (fun p hp => ?_) (fun x y c a b => ?_) h1 h2
      · rw [Heap.size_push]
        rcases List.mem_cons.mp hp with rfl | hp
        · exact Nat.lt_succ_self _
        · exact Nat.lt_succ_of_lt (hl p hp)
      · rcases List.mem_cons.mp a with e | a <;> rcases List.mem_cons.mp b with e' | b
        · cases e; cases e'; rfl
        · cases e; exact absurd (hl _ b) (Nat.lt_irrefl _)
        · cases e'; exact absurd (hl _ a) (Nat.lt_irrefl _)
        · exact hi _ _ _ a b
    · rename_i hk
      rw [if_neg hk] at h2
      exact cells_inj hl hi h1 h2
theorem newEnv_comp {M : Model} {A : Around} {E : Value → Shared → Prop} {s : Shared} {scope : Scope} {globals : Addr} {closure : List (Str × Addr)} {qual : Str} {func : Option Addr} {code : Value} {around : Env} {builtins : Addr} {Q : Env → Shared → Prop}
    (h : Q (newEnv scope s.heap.objs.size globals (cellsFrom (s.heap.objs.size + 1) scope.names closure) qual func code (some around) builtins)
      { s with heap := pushCells (s.heap.push { cls := .type "dict", data := .dict #[] }) scope.names }) :
    wpAny M A (newFunctionEnv scope globals closure [] qual func code (some around) builtins) Q E s := by
  simp only [newFunctionEnv, Option.isSome_some, if_true]
  refine wpAny_bind (wpAny_alloc ?_)
  refine wpAny_bind (wpAny_layCells _ (fun n k c => rfl) scope.names closure _ _ ?_)
  rw [show ({ s with heap := s.heap.push { cls := .type "dict", data := .dict #[] } } : Shared).heap.objs.size = s.heap.objs.size + 1 from Heap.size_push ..]
  rw [List.forIn_nil]
  exact wpAny_bind (wpAny_pure (wpAny_pure h))
/-- every name of the written scope, in the scope that runs -/
theorem lookup_relS {sc : Scope} : ∀ {names : List (Str × NameKind)} {x : Str} {k : NameKind},
    (names.map fun (n, k) => if (k == NameKind.free && sc.kind == .function && sc.names.lookup n == some .cell) then (n, NameKind.cell) else (n, k)).lookup x = some k →
    ∃ k', names.lookup x = some k' ∧ (k = k' ∨ (k' = .free ∧ k = .cell))
  | [], _, _, h => by simp at h
  | (n, k₀) :: r, x, k, h => by
    have ih := @lookup_relS sc r x k
    have h' : List.lookup x ((if (k₀ == NameKind.free && sc.kind == .function && sc.names.lookup n == some .cell) = true then (n, NameKind.cell) else (n, k₀)) :: (r.map _)) = some k := h
    cases hx : x == n with
    | true =>
      simp only [List.lookup_cons, hx]
      by_cases hc : (k₀ == NameKind.free && sc.kind == .function && sc.names.lookup n == some .cell) = true
      · rw [if_pos hc] at h'
        simp only [List.lookup_cons, hx] at h'
        cases h'
        simp only [Bool.and_eq_true, beq_iff_eq] at hc
        exact ⟨k₀, rfl, .inr ⟨hc.1.1, rfl⟩⟩
      · rw [if_neg hc] at h'
        simp only [List.lookup_cons, hx] at h'
        cases h'
        exact ⟨_, rfl, .inl rfl⟩
    | false =>
      simp only [List.lookup_cons, hx]
      by_cases hc : (k₀ == NameKind.free && sc.kind == .function && sc.names.lookup n == some .cell) = true
      · rw [if_pos hc] at h'
        simp only [List.lookup_cons, hx] at h'
        exact ih h'
      · rw [if_neg hc] at h'
        simp only [List.lookup_cons, hx] at h'
        exact ih h'
/-- the names of a comprehension's block: its own (with their places in N), or captured -/
structure BlkOk (N : List Str) (sc scope : Scope) (own : List (Str × Nat)) : Prop where
  kind : scope.kind = .function
  uniq : ∀ y ∈ scope.names, scope.names.lookup y.1 = some y.2
  ix : ∀ p ∈ own, N[p.2]? = some p.1
  free : ∀ y ∈ scope.names, y.2 = .free → sc.names.lookup y.1 = some .cell ∨ sc.names.lookup y.1 = some .free
  own : ∀ y ∈ scope.names, y.2 = .local ∨ y.2 = .cell → y.1 ∈ own.map (·.1) ∨ y.1 ∉ N
/-- the slots of the block's own names forgotten -/
def wipe (σ : St) : List Nat → St
  | [] => σ
  | v :: vs => (wipe σ vs).set v none
theorem wipe_length (σ : St) : ∀ vs : List Nat, (wipe σ vs).length = σ.length
  | [] => rfl
  | v :: vs => by unfold wipe; rw [List.length_set, wipe_length σ vs]
theorem wipe_some {σ : St} {i : Nat} {x : V} : ∀ {vs : List Nat}, (wipe σ vs)[i]? = some (some x) → σ[i]? = some (some x) ∧ i ∉ vs
  | [], h => ⟨h, by simp⟩
  | v :: vs, h => by
    unfold wipe at h
    by_cases hi : v = i
    · subst hi
      by_cases hv : v < (wipe σ vs).length
      · rw [List.getElem?_set_self hv] at h; cases h
      · rw [List.getElem?_eq_none (by simpa using hv)] at h; cases h
    · rw [List.getElem?_set_ne hi] at h
      obtain ⟨h1, h2⟩ := wipe_some h
      exact ⟨h1, by simp only [List.mem_cons, not_or]; exact ⟨fun e => hi e.symm, h2⟩⟩
/-- the context of a block that starts at s, its iterator's objects at fp -/
abbrev Cx.blk (X : Cx) (s : Shared) (H : Hp) (scope : Scope) (cenv : Env) (fp : List Addr) : Cx := { X with s_0 := s, H_0 := H, env := cenv, outer := X.stack, ex := fp, fn := fun x => scope.names.lookup x == some .cell, pn := [], xe := fun _ _ => False }
section
variable {X : Cx} {pins : List (Addr × Obj)} {σ : St} {H : Hp} {s : Shared}
theorem block_start {scope : Scope} {own : List (Str × Nat)} {fp : List Addr} (I : Inv X pins σ H s) (ok : BlkOk X.N X.env.scope scope own) (hN : X.N.Nodup) (hfp : ∀ b ∈ fp, FpOk X pins H b ∧ b < s.heap.objs.size) :
    Inv (X.blk s H scope (compEnvC scope (cellsFrom (s.heap.objs.size + 1) scope.names (cloFrom X.env.cells scope.names [])) s.heap.objs.size X.env) fp) [] (wipe σ (own.map (·.2))) H { s with heap := pushCells (s.heap.push { cls := .type "dict", data := .dict #[] }) scope.names } := by
  have hfree : ∀ y ∈ scope.names, y.2 = .free → ∃ c, X.env.cells.lookup y.1 = some c := fun y hy e => by
    rcases ok.free y hy e with k | k
    · exact I.ok.has _ (.inl k)
    · exact I.ok.has _ (.inr k)
  generalize hcenv : compEnvC scope (cellsFrom (s.heap.objs.size + 1) scope.names (cloFrom X.env.cells scope.names [])) s.heap.objs.size X.env = cenv
  have kp : ∀ b o, s.heap.get? b = some o → (pushCells (s.heap.push { cls := .type "dict", data := .dict #[] }) scope.names).get? b = some o := fun b o e => pushCells_keeps _ _ _ _ (Heap.get?_push_of_some _ e)
  have hL : cenv.locals = s.heap.objs.size := by rw [← hcenv]; rfl
  have hcl : cenv.cells = cellsFrom (s.heap.objs.size + 1) scope.names (cloFrom X.env.cells scope.names []) := by rw [← hcenv]; rfl
  have hsc : cenv.scope = relS scope X.env.scope := by rw [← hcenv]; rfl
  rw [← Heap.size_push s.heap { cls := .type "dict", data := .dict #[] }] at hcl
  have cm : ∀ {y c}, (y, c) ∈ cloFrom X.env.cells scope.names [] → X.env.cells.lookup y = some c ∧ c < s.heap.objs.size := fun {y c} hm => by
    rcases cloFrom_mem hm with hm | ⟨h1, rfl⟩
    · cases hm
    · obtain ⟨c, hc⟩ := hfree _ h1 rfl
      rw [hc]
      obtain ⟨w, z⟩ := I.cell _ _ hc
      exact ⟨rfl, z.lt⟩
  have mem : ∀ {y c}, cenv.cells.lookup y = some c → (X.env.cells.lookup y = some c ∧ c < s.heap.objs.size) ∨ (s.heap.objs.size + 1 ≤ c ∧ CellAt (pushCells (s.heap.push { cls := .type "dict", data := .dict #[] }) scope.names) c none) := fun {y c} e => by
    rw [hcl] at e
    rcases cells_mem (PySem.mem_of_lookup e) with hm | ⟨_, h2, h3⟩
    · exact .inl (cm hm)
    · rw [Heap.size_push] at h2; exact .inr ⟨h2, h3⟩
  have look : ∀ {y}, scope.names.lookup y = some .free → ∃ c, cenv.cells.lookup y = some c ∧ X.env.cells.lookup y = some c := fun {y} hl => by
    have hy : (y, NameKind.free) ∈ scope.names := PySem.mem_of_lookup hl
    obtain ⟨c', e'⟩ := mem_lookup (cells_acc (names := scope.names) (n := (s.heap.push { cls := .type "dict", data := .dict #[] }).objs.size) (cloFrom_has (cells := X.env.cells) (acc := []) hy))
    rw [← hcl] at e'
    refine ⟨c', e', ?_⟩
    rw [hcl] at e'
    rcases cells_mem (PySem.mem_of_lookup e') with hm | ⟨h1, _, _⟩
    · exact (cm hm).1
    · have := ok.uniq _ h1
      rw [hl] at this; cases this
  have okB : (X.blk s H scope cenv fp).Ok := by
    refine ⟨I.ok.mod, by show cenv.scope.kind = _; rw [hsc]; exact ok.kind, by show cenv.globals = _; rw [← hcenv]; exact I.ok.glob, by show cenv.builtins = _; rw [← hcenv]; exact I.ok.blt, by show s.heap.objs.size ≤ cenv.locals; rw [hL]; exact Nat.le_refl _,
      fun y z c e1 e2 => ?_, fun y hy => ?_, fun y c z e => ?_, I.ok.hd, I.ok.frames, .inl rfl, fun b hb => ⟨?_, fun y c e z => ?_⟩, I.bs, Nat.le_trans I.ok.bsz I.sz, fun b o e hb => ?_, fun b hb z => ?_, I.stack, I.stkFree⟩
    · have e1 : cenv.cells.lookup y = some c := e1
      have e2 : cenv.cells.lookup z = some c := e2
      rw [hcl] at e1 e2
      refine cells_inj (fun p hp => ?_) (fun y z c a b => I.ok.inj y z c (cm a).1 (cm b).1) (PySem.mem_of_lookup e1) (PySem.mem_of_lookup e2)
      rw [Heap.size_push]
      exact Nat.lt_succ_of_lt (cm (y := p.1) (c := p.2) hp).2
    · show ∃ c, cenv.cells.lookup y = some c
      have key : ∀ k, cenv.kindOf y = some k → (k = .cell ∨ k = .free) → ∃ c, cenv.cells.lookup y = some c := fun k hk hk' => by
        unfold Env.kindOf at hk
        rw [hsc] at hk
        obtain ⟨k', e, r⟩ := lookup_relS hk
        have : k' = .cell ∨ k' = .free := by
          rcases r with rfl | ⟨rfl, _⟩
          · exact hk'
          · exact .inr rfl
        rcases this with rfl | rfl
        · obtain ⟨c, hm⟩ := cells_has (n := (s.heap.push { cls := .type "dict", data := .dict #[] }).objs.size) (acc := cloFrom X.env.cells scope.names []) (PySem.mem_of_lookup e)
          obtain ⟨c', e'⟩ := mem_lookup hm
          exact ⟨c', by rw [hcl]; exact e'⟩
        · obtain ⟨c, h1, _⟩ := look e
          exact ⟨c, h1⟩
      rcases hy with hy | hy
      · exact key _ hy (.inl rfl)
      · exact key _ hy (.inr rfl)
    · have z : (scope.names.lookup y == some NameKind.cell) = true := z
      have z : scope.names.lookup y = some .cell := by simpa using z
      have e : cenv.cells.lookup y = some c := e
      rw [hcl] at e
      rcases cells_mem (PySem.mem_of_lookup e) with hm | ⟨_, h2, _⟩
      · rcases cloFrom_mem hm with hm | ⟨h1, _⟩
        · cases hm
        · have q := ok.uniq _ h1
          rw [z] at q; cases q
      · rw [Heap.size_push] at h2
        exact Nat.le_of_succ_le h2
    · show b ≠ cenv.locals
      rw [hL]; exact Nat.ne_of_lt (hfp b hb).2
    · have e : cenv.cells.lookup y = some c := e
      rcases mem e with ⟨h1, _⟩ | ⟨h1, _⟩
      · exact (hfp b hb).1.2.2.2.2.1 y c h1 z
      · have h2 : s.heap.objs.size + 1 ≤ b := by rw [← z]; exact h1
        exact absurd (Nat.lt_of_lt_of_le (hfp b hb).2 (Nat.le_of_succ_le h2)) (Nat.lt_irrefl _)
    · rcases (hfp b hb).1.2.2.2.1 with z | z
      · exact I.ok.noex b o e z
      · exact absurd (Nat.lt_of_lt_of_le (Heap.lt_size e) (Nat.le_trans I.ok.bsz z)) (Nat.lt_irrefl _)
    · rcases List.mem_cons.mp (I.stkSub b z) with z | z
      · exact (hfp b hb).1.2.1 z
      · exact (hfp b hb).1.2.2.1 z
  refine ⟨okB, rfl, I.bare, Un.kept kp, ⟨fun _ => none, ?_, fun i y av e1 e2 e3 => ?_⟩, fun y c e => ?_, ?_, fun y c e => ?_, fun p hp => ?_, I.hok.kept kp, by rw [wipe_length]; exact I.len⟩
  · show Heap.Ns _ cenv.locals _
    rw [hL]
    exact Heap.Ns.keeps (Heap.Ns.new ..) fun b o e => pushCells_keeps _ _ _ _ e
  · obtain ⟨e2, hne⟩ := wipe_some e2
    have hfr : scope.names.lookup y = some .free ∧ (cenv.kindOf y = some .cell ∨ cenv.kindOf y = some .free) := by
      have key : ∀ k, cenv.scope.names.lookup y = some k → k = .local ∨ k = .cell ∨ k = .free → scope.names.lookup y = some .free ∧ (cenv.kindOf y = some .cell ∨ cenv.kindOf y = some .free) := fun k hk hk' => by
        have hk0 := hk
        rw [hsc] at hk
        obtain ⟨k', e, r⟩ := lookup_relS hk
        have no : ¬ (k' = .local ∨ k' = .cell) := fun hh => by
          rcases ok.own _ (PySem.mem_of_lookup e) hh with e' | e'
          · obtain ⟨p, hp, hpy⟩ := List.mem_map.mp e'
            have e3 := ok.ix p hp
            have : p.1 = y := hpy
            rw [this] at e3
            exact hne (List.mem_map.mpr ⟨p, hp, nodup_ix hN e3 e1⟩)
          · exact e' (List.mem_of_getElem? e1)
        rcases r with rfl | ⟨rfl, rfl⟩
        · rcases hk' with rfl | rfl | rfl
          · exact absurd (.inl rfl) no
          · exact absurd (.inr rfl) no
          · exact ⟨e, .inr hk0⟩
        · exact ⟨e, .inl hk0⟩
      have e3 : Vis cenv.scope y := e3
      rcases e3 with e3 | e3 | e3
      · exact key _ e3 (.inl rfl)
      · exact key _ e3 (.inr (.inl rfl))
      · exact key _ e3 (.inr (.inr rfl))
    obtain ⟨m, hn, hl⟩ := I.loc
    have hvis : Vis X.env.scope y := (ok.free _ (PySem.mem_of_lookup hfr.1) rfl).elim (fun k => .inr (.inl k)) (fun k => .inr (.inr k))
    obtain ⟨w, r, q⟩ := hl i y av e1 e2 hvis
    refine ⟨w, r, .inr ⟨hfr.2, ?_⟩⟩
    obtain ⟨c, h1, h2⟩ := look hfr.1
    rcases q with ⟨k, _⟩ | ⟨_, c', e', z⟩
    · have k : X.env.scope.names.lookup y = some .local := k
      rcases ok.free _ (PySem.mem_of_lookup hfr.1) rfl with k' | k' <;> rw [show X.env.scope.names.lookup y = _ from k'] at k <;> cases k
    · rw [h2] at e'; cases e'
      exact ⟨c, h1, z.keeps kp⟩
  · have e : cenv.cells.lookup y = some c := e
    rcases mem e with ⟨h1, _⟩ | ⟨_, z⟩
    · obtain ⟨w, z⟩ := I.cell y c h1
      exact ⟨w, z.keeps kp⟩
    · exact ⟨_, z⟩
  · show H cenv.locals = none
    rw [hL]; exact I.hok.fresh (Nat.le_refl _)
  · have e : cenv.cells.lookup y = some c := e
    rcases mem e with ⟨h1, _⟩ | ⟨h1, _⟩
    · exact I.freeC y c h1
    · exact I.hok.fresh (Nat.le_of_succ_le h1)
  · exact absurd (show p ∈ ([] : List (Addr × Obj)) ++ [] from hp) (by simp)
/-- an item appended to a tracked list -/
theorem app_ok {E : Value → Shared → Prop} {D : Addr} {xs : List V} {y : V} {v : Value} {Q : Value → Shared → Prop} (I : Inv X pins σ H s) (hD : H D = some (.lst xs)) (hz : xs.length < sizeLine) (r : RelV y v)
    (h : ∀ s', Inv X pins σ (upd H D (.lst (xs ++ [y]))) s' → Q .none s') : wpAny (model X.prog X.w) X.A (call (.builtin "list.append") [.ref D, v]) Q E s := by
  obtain ⟨hz', its, n, ri, e⟩ := I.hok D _ hD
  have hl := ri.length
  refine append_at (hsz := by rw [List.size_toArray]; omega) e fun h' sb ho' => ?_
  refine h { s with heap := h' } (I.write (t' := s.toks) (by rw [hD]; trivial) (.inl rfl) (fun b u hb q => (sb.2 b hb).trans q) ⟨_, ho'⟩ ⟨by rw [List.length_append]; exact hz, its ++ [v], n + 1, ri.append (.cons r .nil), ?_⟩)
  rw [ho']
  simp
/-- a clause's tests -/
def PTs (X : Cx) (ifs : List Expr) (t : TT) : Prop :=
  ∀ (pins : List (Addr × Obj)) (s : Shared) (σ : St) (H : Hp) (Q : Bool → Hp → Prop), Inv X pins σ H s → t σ H Q →
    wpAny (model X.prog X.w) X.A (forIn ifs true fun c r => if r = true then do let ok ← isTrue c X.env (eval c X.env); pure (ForInStep.yield ok) else pure (ForInStep.yield r)) (TP X pins σ Q) X.xe s
def tYes : TT := fun _ H Q => Q true H
theorem pts_nil : PTs X [] tYes := fun _ _ _ H _ I h => wpAny_tests_nil ⟨H, I, h⟩
theorem pts_one {c : Expr} {t : TT} (h : PT X c t) : PTs X [c] t := fun pins s σ H Q I hw => wpAny_tests_one (h pins s σ H Q I hw)
end
theorem thnF {α : Type} {t : Sem α} {Q Q' : α → Shared → Prop} {M : Model} {A : Around} {E : Value → Shared → Prop} {s : Shared} (h : wpAny M A t Q (fun _ _ => False) s) (hQ : ∀ a s, Q a s → Q' a s) : wpAny M A t Q' E s := wpAny_mono h hQ fun _ _ z => False.elim z
/-- the loop of a list comprehension's block, the target of any form (codeAny_compLoop_tests asks a target that no tuple goes to; statement and proof follow it, PyProof/CompMap.lean:41-61, with the step letOwnedTupleGo kept) -/
theorem compLoop_any {prog : Program} {w : World} {A : Around} {R : Result → Shared → Prop} {s : Shared} {elt target iter : Expr} {ifs : List Expr} {scope : Scope} {pos : Pos} {it acc : Value} {env : Env} (I : Nat → Shared → Prop)
    (turn : ∀ n s, I n s → wpAny (model prog w) A (pyNext it) (fun r s₁ => match r with
      | none => R (.ok .next) s₁
      | some v => wpAny (model prog w) A (letOwnedTupleGo target it v) (fun _ s₁' => wpAny (model prog w) A (assign target env v) (fun _ s₂ =>
          wpAny (model prog w) A (forIn ifs true fun c r => if r = true then do let ok ← isTrue c env (eval c env); pure (ForInStep.yield ok) else pure (ForInStep.yield r)) (fun ok s₃ =>
            if ok = true then wpAny (model prog w) A (eval elt env) (fun x s₄ =>
              wpAny (model prog w) A (call (.builtin "list.append") [acc, x]) (fun _ s₅ => ∃ m, m < n ∧ I m s₅) (notedBy (model prog w) A env fun e s' => R (.error e) s') s₄) (notedBy (model prog w) A env fun e s' => R (.error e) s') s₃
            else ∃ m, m < n ∧ I m s₃) (notedBy (model prog w) A env fun e s' => R (.error e) s') s₂) (notedBy (model prog w) A env fun e s' => R (.error e) s') s₁') (notedBy (model prog w) A env fun e s' => R (.error e) s') s₁) (notedBy (model prog w) A env fun e s' => R (.error e) s') s)
    (n : Nat) (h : I n s) :
    codeAny (model prog w) A (.compLoop (.ListComp elt [⟨target, iter, ifs, 0⟩] scope pos) 0 it acc env) R s := by
  refine codeAny_loop rfl I (fun n s hI => ?_) n h
  show wpAny _ A ((compTurn (.ListComp elt [⟨target, iter, ifs, 0⟩] scope pos) 0 it acc env).onRaise (fun x => do noteFrame x env; theTreesLotGoes x)) _ _ s
  refine wpAny_noted ?_
  rw [compTurn_list]
  refine wpAny_bind (wpAny_standAt (wpAny_bind (wpAny_mono (turn n s hI) (fun r s₁ h₁ => ?_) fun _ _ h' => h')))
  cases r with
  | none => exact wpAny_pure h₁
  | some v =>
    refine wpAny_bind (wpAny_mono h₁ (fun _ s₁' h₁' => ?_) fun _ _ h' => h')
    refine wpAny_bind (wpAny_mono h₁' (fun _ s₂ h₂ => wpAny_bind (wpAny_mono h₂ (fun ok s₃ h₃ => ?_) fun _ _ h' => h')) fun _ _ h' => h')
    cases ok with
    | false => exact wpAny_pure ⟨rfl, h₃⟩
    | true =>
      exact wpAny_bind (wpAny_bind (wpAny_mono h₃ (fun x s₄ h₄ => wpAny_bind (wpAny_mono h₄ (fun _ s₅ h₅ => wpAny_pure (wpAny_pure ⟨rfl, h₅⟩)) fun _ _ h' => h')) fun _ _ h' => h'))
section
variable {X : Cx}
/-- [elt for target in iter if ..]: D the new list; W by the turn and a measure, Nx what a turn is to reach -/
def tLc (wi : TI) (g : TG) (tt : TT) (te : TE) (vs : List Nat) : TE := fun σ H Q => wi σ H fun J H1 => ∀ D, H1 D = none → ∃ W : Nat → Nat → Hp → Prop, (∃ m, W 0 m (upd H1 D (.lst []))) ∧ ∀ i m H, W i m H →
  (J.stop i H ∧ Q (.ref D) H) ∨ (J.go i H ∧ ∃ Nx : Hp → Prop, (∀ H', Nx H' → ∃ m', m' < m ∧ W (i + 1) m' H') ∧ ∀ x H', J.yld i H x H' → g x (wipe σ vs) H' fun σ2 H2 => wipe σ2 vs = wipe σ vs ∧ tt σ2 H2 fun b H3 =>
    if b = true then te σ2 H3 fun y H4 => ∃ acc, H4 D = some (.lst acc) ∧ acc.length < sizeLine ∧ Nx (upd H4 D (.lst (acc ++ [y]))) else Nx H3)
theorem lc_core {pins : List (Addr × Obj)} {s : Shared} {σ : St} {H : Hp} {Q : VK} {elt tg iter : Expr} {ifs : List Expr} {scope : Scope} {own : List (Str × Nat)} {pos pos' : Pos} {wi : TI} {g : TG} {tt : TT} {te : TE} {use : Option (Value → Sem Unit)} {Qf : Value → Shared → Prop}
    (hc : X.calm = true) (hN : X.N.Nodup) (I : Inv X pins σ H s) (hi : PI X tg iter wi) (ok : BlkOk X.N X.env.scope scope own)
    (hg : ∀ (s : Shared) (H : Hp) (C : Addr) (cl : List (Str × Addr)) (fp : List Addr), PG (X.blk s H scope (compEnvC scope cl C X.env) fp) tg g) (ht : ∀ (s : Shared) (H : Hp) (C : Addr) (cl : List (Str × Addr)) (fp : List Addr), PTs (X.blk s H scope (compEnvC scope cl C X.env) fp) ifs tt)
    (he : ∀ (s : Shared) (H : Hp) (C : Addr) (cl : List (Str × Addr)) (fp : List Addr), PE (X.blk s H scope (compEnvC scope cl C X.env) fp) elt te) (hs : ∀ x, foldedSetIterable iter X.env x = pure x)
    (h : tLc wi g tt te (own.map (·.2)) σ H Q)
    (hRR : ∀ D C s' m H', Inv X pins σ H' s' → Q (.ref D) H' → s'.heap.Ns C m → FpOk X pins H' C → compPost (model X.prog X.w) X.A X.xe use Qf (.ref D) C (.ok .next) s') :
    wpAny (model X.prog X.w) X.A (comprehension (.ListComp elt [⟨tg, iter, ifs, 0⟩] scope pos) scope X.env pos' (newList []) false (eval iter X.env) use) Qf X.xe s := by
  have hfree : ∀ y ∈ scope.names, y.2 = .free → ∃ c, X.env.cells.lookup y.1 = some c := fun y hy e => by
    rcases ok.free y hy e with k | k
    · exact I.ok.has _ (.inl k)
    · exact I.ok.has _ (.inr k)
  refine wpAny_comprehension_free (use := use) rfl hs (closure_ok hfree) ok.kind (fun y hy e => by rw [ok.uniq y hy, e])
    (thn (hi pins s σ H _ I h) fun xv s1 hx => thn hx fun itv s2 h2 => ?_)
  obtain ⟨it, fp, tn, J, H2, e, I2, T, st2, f2, q⟩ := h2
  subst e
  refine wpAny_newObj_type (newEnv_comp ?_) (by show 0 ≤ sizeLine; decide)
  generalize hD : s2.heap.objs.size = D
  have hDn : H2 D = none := I2.hok.fresh (Nat.le_of_eq hD)
  obtain ⟨W, ⟨m0, w0⟩, turn⟩ := q D hDn
  -- the new list
  generalize hs3 : ({ s2 with heap := s2.heap.push { cls := .type "list", data := .seq ([] : List Value).toArray } } : Shared) = s3
  have I3 : Inv X pins σ (upd H2 D (.lst [])) s3 := by
    rw [← hs3]
    refine I2.laid (t' := s2.toks) (fun b o e => Heap.get?_push_of_some _ e) (Nat.le_of_eq hD) ⟨Nat.zero_le _, [], 0, .nil, ?_⟩
    rw [← hD]
    exact Heap.get?_push_size _ rfl
  have h3 : s3.heap = s2.heap.push { cls := .type "list", data := .seq ([] : List Value).toArray } := by rw [← hs3]
  have sz : ∀ b ∈ fp, b < s2.heap.objs.size := fun b hb => by
    obtain ⟨o, e, _⟩ := T.obj _ _ st2 b hb
    exact Heap.lt_size e
  have f3 : ∀ b ∈ fp, FpOk X pins (upd H2 D (.lst [])) b ∧ b < s3.heap.objs.size := fun b hb => by
    have hlt := sz b hb
    refine ⟨⟨?_, (f2 b hb).2⟩, by rw [h3, Heap.size_push]; exact Nat.lt_succ_of_lt hlt⟩
    rw [upd_ne (by rw [← hD]; exact Nat.ne_of_lt hlt)]
    exact (f2 b hb).1
  have st3 : tn 0 s3.heap := T.keep _ _ _ st2 fun b _ o e => by rw [h3]; exact Heap.get?_push_of_some _ e
  have I4 := block_start I3 ok hN f3
  have pg := hg s3 (upd H2 D (.lst [])) s3.heap.objs.size (cellsFrom (s3.heap.objs.size + 1) scope.names (cloFrom X.env.cells scope.names [])) fp
  have pt := ht s3 (upd H2 D (.lst [])) s3.heap.objs.size (cellsFrom (s3.heap.objs.size + 1) scope.names (cloFrom X.env.cells scope.names [])) fp
  have pe := he s3 (upd H2 D (.lst [])) s3.heap.objs.size (cellsFrom (s3.heap.objs.size + 1) scope.names (cloFrom X.env.cells scope.names [])) fp
  show codeAny _ _ (.compStart (.ListComp elt [⟨tg, iter, ifs, 0⟩] scope pos) 0 (.ref it) (.ref D) (compEnvC scope (cellsFrom (s3.heap.objs.size + 1) scope.names (cloFrom X.env.cells scope.names [])) s3.heap.objs.size X.env)) (compPost (model X.prog X.w) X.A X.xe use Qf (.ref D) s3.heap.objs.size) { s3 with heap := pushCells (s3.heap.push { cls := .type "dict", data := .dict #[] }) scope.names }
  have nfp : ∀ b ∈ fp, (upd H2 D (.lst [])) b = none := fun b hb => (f3 b hb).1.1
  generalize hce : compEnvC scope (cellsFrom (s3.heap.objs.size + 1) scope.names (cloFrom X.env.cells scope.names [])) s3.heap.objs.size X.env = ce at I4 pg pt pe ⊢
  have cL : ce.locals = s3.heap.objs.size := by subst hce; rfl
  generalize hH3 : upd H2 D (.lst []) = H3 at I3 I4 pg pt pe w0 nfp f3
  generalize hs4 : ({ s3 with heap := pushCells (s3.heap.push { cls := .type "dict", data := .dict #[] }) scope.names } : Shared) = s4 at I4 ⊢
  have st4 : tn 0 s4.heap := T.keep _ _ _ st3 fun b _ o e => by rw [← hs4]; exact pushCells_keeps _ _ _ _ (Heap.get?_push_of_some _ e)
  have stat : ∀ {σ' : St} {H' : Hp} {s' : Shared}, Inv (X.blk s3 H3 scope ce fp) [] σ' H' s' → (∀ b ∈ fp, H' b = none) → ∀ b ∈ fp, FpOk (X.blk s3 H3 scope ce fp) [] H' b := fun {σ' H' s'} I' hn b hb =>
    ⟨hn b hb, (I'.ok.exf b hb).1, I'.ok.exfs b hb, .inl hb, fun x c e => (I'.ok.exf b hb).2 x c e, fun p hp => absurd (show p ∈ ([] : List (Addr × Obj)) ++ [] from hp) (by simp)⟩
  have loop : codeAny (model X.prog X.w) X.A (.compLoop (.ListComp elt [⟨tg, iter, ifs, 0⟩] scope pos) 0 (.ref it) (.ref D) ce) (compPost (model X.prog X.w) X.A X.xe use Qf (.ref D) s3.heap.objs.size) s4 := by
    refine compLoop_any (fun n s' => ∃ i H', Inv (X.blk s3 H3 scope ce fp) [] (wipe σ (own.map (·.2))) H' s' ∧ tn i s'.heap ∧ (∀ b ∈ fp, H' b = none) ∧ W i n H') ?_ m0 ⟨0, H3, I4, st4, nfp, w0⟩
    rintro n s5 ⟨i, H5, I5, st5, n5, w5⟩
    rcases turn i n H5 w5 with ⟨stop, qq⟩ | ⟨go, Nx, hNx, step⟩
    · have td := T.done (X.blk s3 H3 scope ce fp) rfl rfl rfl hc i [] s5 _ H5 (fun _ _ => False) I5 (stat I5 n5) st5 stop
      refine thnF td fun r s6 ⟨hr, I6⟩ => ?_
      subst hr
      -- back in the def's context
      have I7 : Inv X pins σ H5 s6 := I3.call' (ch := fp) I6.os I6.base I6.hok I6.bare fun b hb => ⟨(f3 b hb).1.2.2.2.1, (f3 b hb).1.2.1, (f3 b hb).1.2.2.2.2.1, (f3 b hb).1.2.2.2.2.2⟩
      have nC : H5 s3.heap.objs.size = none := by
        have z : H5 ce.locals = none := I6.free
        rw [cL] at z
        exact z
      obtain ⟨m, hn, _⟩ := I6.loc
      have hn : s6.heap.Ns ce.locals m := hn
      rw [cL] at hn
      exact hRR D s3.heap.objs.size s6 m H5 I7 qq hn (I3.fpOk (Nat.le_refl _) nC)
    · have ti := T.item (X.blk s3 H3 scope ce fp) rfl rfl rfl hc i [] s5 _ H5 (fun _ _ => False) I5 (stat I5 n5) st5 go
      refine thnF ti fun r s6 ⟨u, hr, h6⟩ => ?_
      subst hr
      refine thnF h6 fun _ s7 ⟨x, H7, I7, r7, y7, st7, n7⟩ => ?_
      have I7' := I7.pinned (stat I7 n7) (T.obj _ _ st7)
      refine thnF (pg _ s7 _ H7 x u _ I7' r7 (step x H7 y7)) fun _ s8 ⟨σ8, H8, I8, hw8, q8⟩ => ?_
      refine thnF (pt _ s8 σ8 H8 _ I8 q8) fun b s9 ⟨H9, I9, q9⟩ => ?_
      -- the turn's end
      have fin : ∀ {s' : Shared} {H' : Hp}, Inv (X.blk s3 H3 scope ce fp) ([] ++ pinsAt fp s7.heap) σ8 H' s' → Nx H' → ∃ m, m < n ∧ ∃ i H', Inv (X.blk s3 H3 scope ce fp) [] (wipe σ (own.map (·.2))) H' s' ∧ tn i s'.heap ∧ (∀ b ∈ fp, H' b = none) ∧ W i m H' := fun {s' H'} I' nx => by
        obtain ⟨m', hm, w'⟩ := hNx H' nx
        have pin' : ∀ b ∈ fp, ∀ o, s7.heap.get? b = some o → s'.heap.get? b = some o ∧ H' b = none := fun b hb o e =>
          let z := I'.pin (b, o) (List.mem_append_right _ (List.mem_append_right _ (mem_pinsAt hb e)))
          ⟨z.1, z.2.1⟩
        have hl : (wipe σ (own.map (·.2))).length = σ8.length := by rw [← hw8, wipe_length]
        refine ⟨m', hm, i + 1, H', (I'.unpinned (pins := [])).weak hl (fun j v e => ?_), T.keep _ _ _ st7 fun b hb o e => (pin' b hb o e).1, fun b hb => ?_, w'⟩
        · rw [← hw8] at e
          exact (wipe_some e).1
        · obtain ⟨o, e, _⟩ := T.obj _ _ st7 b hb
          exact (pin' b hb o e).2
      cases b with
      | false =>
        simp only [Bool.false_eq_true, if_false] at q9 ⊢
        exact fin I9 q9
      | true =>
        simp only [if_true] at q9 ⊢
        refine thnF (pe _ s9 σ8 H9 _ I9 q9) fun z s10 ⟨yv, H10, I10, r10, acc, hD10, hz10, nx⟩ => ?_
        exact app_ok (X := X.blk s3 H3 scope ce fp) I10 hD10 hz10 r10 fun s11 I11 => fin I11 nx
  exact codeAny_compStart_list loop (T.self X.A 0 _ _ _ st4 loop)
/-- as a value -/
theorem pe_lc {elt tg iter : Expr} {ifs : List Expr} {scope : Scope} {own : List (Str × Nat)} {pos : Pos} {wi : TI} {g : TG} {tt : TT} {te : TE} (hc : X.calm = true) (hN : X.N.Nodup) (hi : PI X tg iter wi) (ok : BlkOk X.N X.env.scope scope own)
    (hg : ∀ (s : Shared) (H : Hp) (C : Addr) (cl : List (Str × Addr)) (fp : List Addr), PG (X.blk s H scope (compEnvC scope cl C X.env) fp) tg g) (ht : ∀ (s : Shared) (H : Hp) (C : Addr) (cl : List (Str × Addr)) (fp : List Addr), PTs (X.blk s H scope (compEnvC scope cl C X.env) fp) ifs tt)
    (he : ∀ (s : Shared) (H : Hp) (C : Addr) (cl : List (Str × Addr)) (fp : List Addr), PE (X.blk s H scope (compEnvC scope cl C X.env) fp) elt te) (hs : ∀ x, foldedSetIterable iter X.env x = pure x := by intro _; rfl) :
    PE X (.ListComp elt [⟨tg, iter, ifs, 0⟩] scope pos) (tLc wi g tt te (own.map (·.2))) := by
  intro pins s σ H Q I h
  rw [eval_ListComp]
  refine lc_core hc hN I hi ok hg ht he hs h fun D C s' m H' I' q hn f => ⟨m, hn, fun h'' sb => ?_⟩
  obtain ⟨f0, f1, f2, f3, f4, f5⟩ := f
  exact ⟨.ref D, H', I'.turned (t' := s'.toks) (fun b o hb e => (sb.2 b hb).trans e) f0 f1 f3 f4 f5, rfl, q⟩
/-- name = [..] on one line, the name a local -/
theorem ps_setLc {i : Nat} {y : Str} {py : Pos} {elt tg iter : Expr} {ifs : List Expr} {scope : Scope} {own : List (Str × Nat)} {pos spos : Pos} {wi : TI} {g : TG} {tt : TT} {te : TE} (hc : X.calm = true) (hN : X.N.Nodup) (hy : X.N[i]? = some y) (hyl : X.env.scope.names.lookup y = some .local)
    (hsw : swapsWith (.ListComp elt [⟨tg, iter, ifs, 0⟩] scope pos) (some (.Name y py)) spos.line X.env = pure true) (hi : PI X tg iter wi) (ok : BlkOk X.N X.env.scope scope own)
    (hg : ∀ (s : Shared) (H : Hp) (C : Addr) (cl : List (Str × Addr)) (fp : List Addr), PG (X.blk s H scope (compEnvC scope cl C X.env) fp) tg g) (ht : ∀ (s : Shared) (H : Hp) (C : Addr) (cl : List (Str × Addr)) (fp : List Addr), PTs (X.blk s H scope (compEnvC scope cl C X.env) fp) ifs tt)
    (he : ∀ (s : Shared) (H : Hp) (C : Addr) (cl : List (Str × Addr)) (fp : List Addr), PE (X.blk s H scope (compEnvC scope cl C X.env) fp) elt te) (hs : ∀ x, foldedSetIterable iter X.env x = pure x := by intro _; rfl) :
    PS X (.Assign [.Name y py] (.ListComp elt [⟨tg, iter, ifs, 0⟩] scope pos) spos) (tAsg (tLc wi g tt te (own.map (·.2))) (gName i)) := by
  intro pins s σ H D I h
  rw [exec_Assign_Name_used _ _ _ _ hsw]
  refine wpAny_bind (wpAny_standAt (wpAny_bind ?_))
  show wpAny _ X.A (do let _ ← comprehension (.ListComp elt [⟨tg, iter, ifs, 0⟩] scope pos) scope X.env (firstIterPos [⟨tg, iter, ifs, 0⟩] pos) (newList []) false (eval iter X.env) (some (assign (.Name y py) X.env))) _ _ s
  have h : tLc wi g tt te (own.map (·.2)) σ H (fun x H1 => gName i x σ H1 D.nx) := h
  refine wpAny_bind (thn (lc_core (Qf := fun _ s' => SP X pins D .next s') hc hN I hi ok hg ht he hs h fun L C s' m H' I' q hn f => ?_) fun _ s' hq => wpAny_pure (wpAny_pure hq))
  show wpAny _ _ (assign (.Name y py) X.env (.ref L)) _ _ _
  refine wpAny_assign_Name (store_ok2 (v := V.ref L) I' hN hy (.inl hyl) rfl (fun s2 I2 ⟨a, sb, ha⟩ => ?_) (.inr hyl))
  obtain ⟨f0, f1, f2, f3, f4, f5⟩ := f
  have haC : C ≠ a := by
    rcases ha with z | z
    · rw [z]; exact f1
    · exact fun e => f4 y a z e.symm
  refine ⟨m, hn.sameBut sb haC, fun h3 sb3 => ?_⟩
  exact ⟨_, H', I2.turned (t' := s2.toks) (fun b o hb e => (sb3.2 b hb).trans e) f0 f1 f3 f4 f5, q⟩
theorem sw_true {elt : Expr} {gs : List Comprehension} {scope : Scope} {pos py : Pos} {y : Str} {l : Nat} {env : Env} (hk : env.scope.kind = .function) (hy : env.scope.names.lookup y = some .local) (hl : (py.line == pos.line) = true)
    (ha : (scope.names.any fun (n, k) => n == y && (k == .local || k == .cell)) = false) : swapsWith (.ListComp elt gs scope pos) (some (.Name y py)) l env = pure true := by
  have ky : env.kindOf y = some .local := hy
  have hb : env.blockKind = .function := by unfold Env.blockKind; rw [hk]; rfl
  unfold swapsWith
  simp only [hb, ky, ha, Expr.pos, hl]
  rfl
end
/-! ### the forms one uses -/
/-- over a list that the block leaves as it is -/
theorem lc_list {K : PySem.W.Frag} {a : Addr} {xs : List V} {g : TG} {tt : TT} {te : TE} {vs : List Nat} {σ : St} {H1 : Hp} {D : Addr} {Qd : Hp → Prop} (Pv : Nat → Hp → Prop) (h0 : Pv 0 (upd H1 D (.lst []))) (hl : ∀ i H, i ≤ xs.length → Pv i H → SqL K H a xs)
    (hs : ∀ i x H, xs[i]? = some x → Pv i H → g x (wipe σ vs) H fun σ2 H2 => wipe σ2 vs = wipe σ vs ∧ tt σ2 H2 fun b H3 =>
      if b = true then te σ2 H3 fun y H4 => ∃ acc, H4 D = some (.lst acc) ∧ acc.length < sizeLine ∧ Pv (i + 1) (upd H4 D (.lst (acc ++ [y]))) else Pv (i + 1) H3) (hd : ∀ H, Pv xs.length H → Qd H) :
    ∃ W : Nat → Nat → Hp → Prop, (∃ m, W 0 m (upd H1 D (.lst []))) ∧ ∀ i m H, W i m H →
      ((Itl K a).stop i H ∧ Qd H) ∨ ((Itl K a).go i H ∧ ∃ Nx : Hp → Prop, (∀ H', Nx H' → ∃ m', m' < m ∧ W (i + 1) m' H') ∧ ∀ x H', (Itl K a).yld i H x H' → g x (wipe σ vs) H' fun σ2 H2 => wipe σ2 vs = wipe σ vs ∧ tt σ2 H2 fun b H3 =>
        if b = true then te σ2 H3 fun y H4 => ∃ acc, H4 D = some (.lst acc) ∧ acc.length < sizeLine ∧ Nx (upd H4 D (.lst (acc ++ [y]))) else Nx H3) := by
  refine ⟨fun i m H => m = xs.length - i ∧ i ≤ xs.length ∧ Pv i H, ⟨xs.length, by simp, Nat.zero_le _, h0⟩, ?_⟩
  rintro i m H ⟨rfl, hi, p⟩
  have q := hl i H hi p
  by_cases hlt : i < xs.length
  · refine .inr ⟨⟨xs, xs[i], q, by simp [hlt]⟩, Pv (i + 1), fun H' p' => ⟨xs.length - (i + 1), by omega, rfl, hlt, p'⟩, fun x H' y => ?_⟩
    obtain ⟨e, y⟩ := y
    subst e
    exact hs i x _ (y xs q) p
  · have e : i = xs.length := by omega
    subst e
    exact .inl ⟨⟨xs, q, Nat.le_refl _⟩, hd H p⟩
def blkC (N : List Str) (sc scope : Scope) (own : List (Str × Nat)) : Bool :=
  (match scope.kind with | .function => true | _ => false) && (scope.names.all fun y => decide (scope.names.lookup y.1 = some y.2)) && (own.all fun p => decide (N[p.2]? = some p.1)) &&
    (scope.names.all fun y => match y.2 with
      | .free => (match sc.names.lookup y.1 with | some .cell => true | some .free => true | _ => false)
      | .local => decide (y.1 ∈ own.map (·.1)) || decide (y.1 ∉ N)
      | .cell => decide (y.1 ∈ own.map (·.1)) || decide (y.1 ∉ N)
      | _ => true)
theorem blkOk_by {N : List Str} {sc scope : Scope} {own : List (Str × Nat)} (h : blkC N sc scope own = true) : BlkOk N sc scope own := by
  unfold blkC at h
  simp only [Bool.and_eq_true, List.all_eq_true, decide_eq_true_eq] at h
  obtain ⟨⟨⟨h1, h2⟩, h3⟩, h4⟩ := h
  refine ⟨?_, h2, h3, fun y hy e => ?_, fun y hy e => ?_⟩
  · split at h1
    · assumption
    · cases h1
  · have q := h4 y hy
    simp only [e] at q
    split at q <;> first | exact .inl (by assumption) | exact .inr (by assumption) | cases q
  · have q := h4 y hy
    rcases e with e | e <;> (simp only [e, Bool.or_eq_true, decide_eq_true_eq] at q; exact q)
end L2
namespace L2
open PySem PySem.Spec PyProof.Rows
section
variable {prog : Program} {w : World} {A : Around} {R : Result → Shared → Prop} {s : Shared} {elt t0 i0 t1 i1 : Expr} {ifs0 ifs1 : List Expr} {scope : Scope} {pos : Pos} {it acc : Value} {env : Env}
end
section
variable {X : Cx}
end
end L2
namespace L2
open PySem PySem.Spec PyProof.Rows
/-! ### lists of pairs as tables -/
section
variable {κ : Type} [DecidableEq κ]
def valV (kvs : List (κ × V)) (k : κ) : Option V := (kvs.find? fun kv => decide (kv.1 = k)).map (·.2)
/-- in its place, or at the end -/
def putK (kvs : List (κ × V)) (k : κ) (v : V) : List (κ × V) :=
  if (kvs.any fun kv => decide (kv.1 = k)) = true then kvs.map (fun kv => if kv.1 = k then (kv.1, v) else kv) else kvs ++ [(k, v)]
def dropK (kvs : List (κ × V)) (k : κ) : List (κ × V) := kvs.filter fun kv => decide (kv.1 ≠ k)
theorem valV_pos {p : κ × V} {r : List (κ × V)} {k : κ} (e : p.1 = k) : valV (p :: r) k = some p.2 := by simp [valV, List.find?_cons, e]
theorem valV_neg {p : κ × V} {r : List (κ × V)} {k : κ} (e : ¬ p.1 = k) : valV (p :: r) k = valV r k := by simp [valV, List.find?_cons, e]
theorem valV_any (k : κ) : ∀ kvs : List (κ × V), (kvs.any fun kv => decide (kv.1 = k)) = (valV kvs k).isSome
  | [] => rfl
  | p :: r => by
    rw [List.any_cons]
    by_cases e : p.1 = k
    · simp only [valV_pos e, decide_eq_true e, Bool.true_or, Option.isSome_some]
    · rw [valV_neg e, decide_eq_false e, Bool.false_or]; exact valV_any k r
theorem length_putK (kvs : List (κ × V)) (k : κ) (v : V) : (putK kvs k v).length ≤ kvs.length + 1 := by
  unfold putK
  split
  · rw [List.length_map]; omega
  · rw [List.length_append, List.length_cons, List.length_nil]; omega
theorem putK_new {kvs : List (κ × V)} {k : κ} (v : V) (h : valV kvs k = none) : putK kvs k v = kvs ++ [(k, v)] := by
  unfold putK
  rw [valV_any, h]
  exact if_neg (by decide)
theorem RelO.isSome_eq {o : Option V} {u : Option Value} (r : RelO o u) : o.isSome = u.isSome := by
  cases o with
  | none => cases u with
    | none => rfl
    | some _ => exact (show False from r).elim
  | some _ => cases u with
    | none => exact (show False from r).elim
    | some _ => rfl
/-- raw tables of the same keys -/
theorem KV.val {kvs : List (κ × V)} {vs : List (κ × Value)} (r : KV kvs vs) (k : κ) : RelO (valV kvs k) (valueAt vs k) := by
  unfold KV at r
  induction r with
  | nil => exact True.intro
  | @cons p q ps qs h t ih =>
    obtain ⟨h1, h2⟩ := h
    by_cases e : p.1 = k
    · have e' : q.1 = k := h1.symm.trans e
      have b : valueAt (q :: qs) k = some q.2 := by simp [valueAt, List.find?_cons, e']
      rw [valV_pos e, b]; exact h2
    · have e' : ¬ q.1 = k := fun z => e (h1.trans z)
      have b : valueAt (q :: qs) k = valueAt qs k := by simp [valueAt, List.find?_cons, e']
      rw [valV_neg e, b]; exact ih
theorem KV.any {kvs : List (κ × V)} {vs : List (κ × Value)} (r : KV kvs vs) (k : κ) : (kvs.any fun kv => decide (kv.1 = k)) = vs.any fun kv => decide (kv.1 = k) := by
  unfold KV at r
  induction r with
  | nil => rfl
  | cons h t ih => rw [List.any_cons, List.any_cons, ih, h.1]
theorem KV.repl {kvs : List (κ × V)} {vs : List (κ × Value)} (r : KV kvs vs) (k : κ) {y : V} {u : Value} (ry : RelV y u) :
    KV (kvs.map fun kv => if kv.1 = k then (kv.1, y) else kv) (vs.map fun kv => if kv.1 = k then (kv.1, u) else kv) := by
  unfold KV at r ⊢
  induction r with
  | nil => exact .nil
  | @cons p q ps qs h t ih =>
    rw [List.map_cons, List.map_cons]
    refine .cons ?_ ih
    obtain ⟨h1, h2⟩ := h
    by_cases e : p.1 = k
    · rw [if_pos e, if_pos (h1.symm.trans e)]; exact ⟨h1, ry⟩
    · rw [if_neg e, if_neg (fun z => e (h1.trans z))]; exact ⟨h1, h2⟩
theorem KV.put {kvs : List (κ × V)} {vs : List (κ × Value)} (r : KV kvs vs) (k : κ) {y : V} {u : Value} (ry : RelV y u) : KV (putK kvs k y) (stored vs k u) := by
  unfold putK stored
  rw [r.any k]
  by_cases e : (vs.any fun kv => decide (kv.1 = k)) = true
  · rw [if_pos e, if_pos e]; exact r.repl k ry
  · rw [if_neg e, if_neg e]; exact Paired.snoc r ⟨rfl, ry⟩
theorem KV.drop {kvs : List (κ × V)} {vs : List (κ × Value)} (r : KV kvs vs) (k : κ) : KV (dropK kvs k) (without vs k) := by
  unfold KV at r ⊢
  unfold dropK without
  induction r with
  | nil => exact .nil
  | @cons p q ps qs h t ih =>
    obtain ⟨h1, h2⟩ := h
    rw [List.filter_cons, List.filter_cons]
    by_cases e : p.1 = k
    · have a : ¬ decide (p.1 ≠ k) = true := by simp [e]
      have b : ¬ decide (q.1 ≠ k) = true := by simp [h1.symm.trans e]
      rw [if_neg a, if_neg b]; exact ih
    · have e' : ¬ q.1 = k := fun z => e (h1.trans z)
      have a : decide (p.1 ≠ k) = true := by simp [e]
      have b : decide (q.1 ≠ k) = true := by simp [e']
      rw [if_pos a, if_pos b]; exact .cons ⟨h1, h2⟩ ih
theorem KV.length {kvs : List (κ × V)} {vs : List (κ × Value)} (r : KV kvs vs) : kvs.length = vs.length := Paired.length r
theorem dropK_le (kvs : List (κ × V)) (k : κ) : (dropK kvs k).length ≤ kvs.length := List.length_filter_le _ _
end
/-! ### a tracked dict, its keys ints and texts or tuples of these -/
theorem kV_is {P : Program} {w : World} {k : Key} {u : Value} (r : RelV (kV k) u) : (mixKind P w).is k u = true := by
  cases k with
  | inl i => obtain ⟨t, e⟩ := (show ∃ t, u = Value.int i t from r); subst e; exact mixKind_int P w i t
  | inr x => obtain ⟨t, e⟩ := (show ∃ t, u = Value.str x t from r); subst e; exact mixKind_str P w x t
theorem items_are {P : Program} {w : World} : ∀ {ks : List Key} {us : List Value}, Vals (ks.map kV) us → ItemsAre (mixKind P w) ks us
  | [], _, r => by rw [List.map_nil] at r; cases r; exact .nil
  | k :: ks, _, r => by
    rw [List.map_cons] at r
    cases r with
    | cons h t => exact .cons (kV_is h) (items_are t)
/-- raw entries of a dict with tuple keys -/
abbrev KT (H : Hp) : List (List Key × V) → List (List Key × Addr × Value) → Prop := Paired fun p q => p.1 = q.1 ∧ H q.2.1 = some (.tup (p.1.map kV)) ∧ RelV p.2 q.2.2
theorem KT.val {H : Hp} {kvs : List (List Key × V)} {xs : List (List Key × Addr × Value)} (r : KT H kvs xs) (k : List Key) : RelO (valV kvs k) ((atKey xs k).map (·.2)) := by
  induction r with
  | nil => exact True.intro
  | @cons p q ps qs h t ih =>
    obtain ⟨h1, _, h2⟩ := h
    by_cases e : p.1 = k
    · have e' : q.1 = k := h1.symm.trans e
      have b : atKey (q :: qs) k = some q.2 := by simp [atKey, List.find?_cons, e']
      rw [valV_pos e, b]; exact h2
    · have e' : ¬ q.1 = k := fun z => e (h1.trans z)
      have b : atKey (q :: qs) k = atKey qs k := by simp [atKey, List.find?_cons, e']
      rw [valV_neg e, b]; exact ih
theorem KT.repl {H : Hp} {kvs : List (List Key × V)} {xs : List (List Key × Addr × Value)} (r : KT H kvs xs) (k : List Key) {y : V} {u : Value} (ry : RelV y u) :
    KT H (kvs.map fun kv => if kv.1 = k then (kv.1, y) else kv) (xs.map (putAt k u)) := by
  induction r with
  | nil => exact .nil
  | @cons p q ps qs h t ih =>
    rw [List.map_cons, List.map_cons]
    refine .cons ?_ ih
    obtain ⟨h1, h2, h3⟩ := h
    unfold putAt
    by_cases e : p.1 = k
    · rw [if_pos e, if_pos (h1.symm.trans e)]; exact ⟨h1, h2, ry⟩
    · rw [if_neg e, if_neg (fun z => e (h1.trans z))]; exact ⟨h1, h2, h3⟩
theorem KT.put {H : Hp} {kvs : List (List Key × V)} {xs : List (List Key × Addr × Value)} (r : KT H kvs xs) (k : List Key) {b : Addr} {y : V} {u : Value} (hb : H b = some (.tup (k.map kV))) (ry : RelV y u) :
    KT H (putK kvs k y) (storedH xs k b u) := by
  have e : (kvs.any fun kv => decide (kv.1 = k)) = (atKey xs k).isSome := by
    rw [valV_any, (r.val k).isSome_eq, Option.isSome_map]
  unfold putK storedH
  rw [e]
  by_cases q : (atKey xs k).isSome = true
  · rw [if_pos q, if_pos q]; exact r.repl k ry
  · rw [if_neg q, if_neg q]; exact Paired.snoc r ⟨rfl, hb, ry⟩
theorem KT.keeps {H H' : Hp} {kvs : List (List Key × V)} {xs : List (List Key × Addr × Value)} (r : KT H kvs xs) (ht : ∀ b ys, H b = some (.tup ys) → H' b = some (.tup ys)) : KT H' kvs xs :=
  Paired.mapP r fun _ _ z => ⟨z.1, ht _ _ z.2.1, z.2.2⟩
section
variable {P : Program} {w : World} {H : Hp} {h : Heap} {a : Addr}
theorem rd_of {u : HO} (ok : HOk P w H h) (e : Rd H a u) : ObjOk P w H h a u := e.ok ok
theorem dk_rd {kvs : List (Key × V)} (ok : HOk P w H h) (e : Rd H a (.dK kvs)) : kvs.length ≤ sizeLine ∧ (a == sysModules) = false ∧ ∃ vs, KV kvs vs ∧ h.DictOf (mixKind P w) a vs :=
  show ObjOk P w H h a (.dK kvs) from rd_of ok e
theorem dk_of {kvs : List (Key × V)} (ok : HOk P w H h) (e : H a = some (.dK kvs)) : kvs.length ≤ sizeLine ∧ (a == sysModules) = false ∧ ∃ vs, KV kvs vs ∧ h.DictOf (mixKind P w) a vs := dk_rd ok (.inl e)
/-- a tracked tuple of ints and texts is a key -/
theorem key_of {ks : List Key} (ok : HOk P w H h) (e : H a = some (.tup (ks.map kV))) : (tupleKind (mixKind P w)).is h ks a := by
  obtain ⟨_, its, r, o, h1, h2, n, h3⟩ := (show ObjOk P w H h a (.tup (ks.map kV)) from ok a _ e)
  exact ⟨o, its.toArray, n, h1, h2, h3, by simpa using items_are r⟩
theorem dt_rd {kvs : List (List Key × V)} (ok : HOk P w H h) (e : Rd H a (.dT kvs)) : kvs.length ≤ sizeLine ∧ (a == sysModules) = false ∧
    ∃ xs, KT H kvs xs ∧ h.DictOfH (tupleKind (mixKind P w)) a xs := by
  obtain ⟨z, y, xs, r, o, es, ep, h1, h2, h3, h4, h5⟩ := (show ObjOk P w H h a (.dT kvs) from rd_of ok e)
  refine ⟨z, y, xs, r, o, es, ep, h1, h2, h3, h4, fun x hx => ?_, h5⟩
  have all : ∀ {l : List (List Key × V)} {m : List (List Key × Addr × Value)}, KT H l m → ∀ x ∈ m, (tupleKind (mixKind P w)).is h x.1 x.2.1 := by
    intro l m q
    induction q with
    | nil => intro x hx; exact nomatch hx
    | @cons p q ps qs hq t ih =>
      intro x hx
      rcases List.mem_cons.mp hx with e | hx
      · subst e
        exact key_of ok (by rw [← hq.1]; exact hq.2.1)
      · exact ih x hx
  exact all r x hx
theorem dt_of {kvs : List (List Key × V)} (ok : HOk P w H h) (e : H a = some (.dT kvs)) : kvs.length ≤ sizeLine ∧ (a == sysModules) = false ∧
    ∃ xs, KT H kvs xs ∧ h.DictOfH (tupleKind (mixKind P w)) a xs := dt_rd ok (.inl e)
end
/-- what the dict at a holds at the key y -/
def DGet (H : Hp) (a : Addr) (y : V) (r : Option V) : Prop :=
  (∃ kvs k, Rd H a (.dK kvs) ∧ y = kV k ∧ r = valV kvs k) ∨ ∃ kvs k b, Rd H a (.dT kvs) ∧ y = .ref b ∧ H b = some (.tup (k.map kV)) ∧ r = valV kvs k
/-- the heap behind a[y] = v -/
def DPut (H : Hp) (a : Addr) (y v : V) (H' : Hp) : Prop :=
  (∃ kvs k, H a = some (.dK kvs) ∧ y = kV k ∧ kvs.length < sizeLine ∧ H' = upd H a (.dK (putK kvs k v))) ∨
  ∃ kvs k b, H a = some (.dT kvs) ∧ y = .ref b ∧ H b = some (.tup (k.map kV)) ∧ kvs.length < sizeLine ∧ H' = upd H a (.dT (putK kvs k v))
theorem DGet.k {H : Hp} {a : Addr} {kvs : List (Key × V)} {k : Key} (e : H a = some (.dK kvs)) : DGet H a (kV k) (valV kvs k) := .inl ⟨kvs, k, .inl e, rfl, rfl⟩
theorem DPut.k {H : Hp} {a : Addr} {kvs : List (Key × V)} {k : Key} {v : V} (e : H a = some (.dK kvs)) (hl : kvs.length < sizeLine) : DPut H a (kV k) v (upd H a (.dK (putK kvs k v))) := .inl ⟨kvs, k, e, rfl, hl, rfl⟩
section
variable {X : Cx} {pins : List (Addr × Obj)} {σ : St} {H : Hp} {s : Shared} {a : Addr} {y v : V} {u r : Value} {o : Option V} {A : Around} {E : Value → Shared → Prop}
theorem Inv.big (I : Inv X pins σ H s) : sysModules < s.heap.objs.size := by
  have h : mainGlobals < s.heap.objs.size := (I.mod.glob.keeps I.bk).lt
  exact Nat.lt_trans (by decide) h
/-- d[y], there -/
theorem d_getItem {Q : Value → Shared → Prop} (hu : A.units + 1 < cLine) (I : Inv X pins σ H s) (g : DGet H a y (some v)) (ry : RelV y u) (h : ∀ w' s', Inv X pins σ H s' → RelV v w' → Q w' s') :
    wpAny (model X.prog X.w) A (getItem (.ref a) u) Q E s := by
  rcases g with ⟨kvs, k, e, ey, l⟩ | ⟨kvs, k, b, e, ey, eb, l⟩
  · subst ey
    obtain ⟨z, hd, vs, rel, dd⟩ := dk_rd I.hok e
    obtain ⟨w', hw, rw'⟩ := RelO.some_of (v := v) (o := valueAt vs k) (by rw [l]; exact rel.val k)
    exact wpAny_getItem_of (kV_is ry) dd.mapOf hw (h w' _ (I.tok _) rw')
  · subst ey
    cases (show u = Value.ref b from ry)
    obtain ⟨z, hd, xs, rel, dd⟩ := dt_rd I.hok e
    obtain ⟨w', hw, rw'⟩ := RelO.some_of (v := v) (o := (atKey xs k).map (·.2)) (by rw [l]; exact rel.val k)
    obtain ⟨p, hp, hp2⟩ := Option.map_eq_some_iff.mp hw
    refine wpAny_getItem_heap (tupleKind_room_in1 hu) (key_of I.hok eb) dd hp ?_
    rw [hp2]
    exact h w' _ (I.tok _) rw'
/-- y in d -/
theorem d_in {Q : Value → Shared → Prop} (hu : A.units + 1 < cLine) (I : Inv X pins σ H s) (g : DGet H a y o) (ry : RelV y u) (h : ∀ s', Inv X pins σ H s' → Q (.bool o.isSome) s') :
    wpAny (model X.prog X.w) A (compareOp .In u (.ref a)) Q E s := by
  rcases g with ⟨kvs, k, e, ey, l⟩ | ⟨kvs, k, b, e, ey, eb, l⟩
  · subst ey
    obtain ⟨z, hd, vs, rel, dd⟩ := dk_rd I.hok e
    refine wpAny_in_of (kV_is ry) hd dd.mapOf ?_
    rw [← (rel.val k).isSome_eq, ← l]
    exact h _ (I.tok _)
  · subst ey
    cases (show u = Value.ref b from ry)
    obtain ⟨z, hd, xs, rel, dd⟩ := dt_rd I.hok e
    refine wpAny_in_heap (tupleKind_room_in1 hu) (key_of I.hok eb) hd dd ?_
    have q := (rel.val k).isSome_eq
    rw [Option.isSome_map] at q
    rw [← q, ← l]
    exact h _ (I.tok _)
theorem d_notIn {Q : Value → Shared → Prop} (hu : A.units + 1 < cLine) (I : Inv X pins σ H s) (g : DGet H a y o) (ry : RelV y u) (h : ∀ s', Inv X pins σ H s' → Q (.bool (!o.isSome)) s') :
    wpAny (model X.prog X.w) A (compareOp .NotIn u (.ref a)) Q E s := by
  rcases g with ⟨kvs, k, e, ey, l⟩ | ⟨kvs, k, b, e, ey, eb, l⟩
  · subst ey
    obtain ⟨z, hd, vs, rel, dd⟩ := dk_rd I.hok e
    refine wpAny_notIn_of (kV_is ry) hd dd.mapOf ?_
    rw [← (rel.val k).isSome_eq, ← l]
    exact h _ (I.tok _)
  · subst ey
    cases (show u = Value.ref b from ry)
    obtain ⟨z, hd, xs, rel, dd⟩ := dt_rd I.hok e
    refine wpAny_notIn_heap (tupleKind_room_in1 hu) (key_of I.hok eb) hd dd ?_
    have q := (rel.val k).isSome_eq
    rw [Option.isSome_map] at q
    rw [← q, ← l]
    exact h _ (I.tok _)
/-- a dict's object is replaced -/
theorem d_write {h' : Heap} {t' : Nat} {ob : HO} (I : Inv X pins σ H s) (mu : Mut (H a)) (hs : Heap.SameBut a s.heap h') (he : ∃ q, h'.get? a = some q) (new : ObjOk X.prog X.w (upd H a ob) h' a ob) :
    Inv X pins σ (upd H a ob) { s with heap := h', toks := t' } :=
  I.write (x := a) (e := a) mu (.inl rfl) (fun b q hb z => (hs.2 b hb).trans z) he new
theorem dk_new {P : Program} {w : World} {H' : Hp} {h' : Heap} {kvs : List (Key × V)} {vs : List (Key × Value)} (z : kvs.length ≤ sizeLine) (hd : (a == sysModules) = false) (rel : KV kvs vs) (dd : h'.DictOf (mixKind P w) a vs) :
    ObjOk P w H' h' a (.dK kvs) := ⟨z, hd, vs, rel, dd⟩
/-- d[y] = v -/
theorem d_setItem {H' : Hp} {Q : Unit → Shared → Prop} (hu : A.units + 1 < cLine) (I : Inv X pins σ H s) (g : DPut H a y v H') (ry : RelV y u) (rv : RelV v r) (h : ∀ s', Inv X pins σ H' s' → Q () s') :
    wpAny (model X.prog X.w) A (setItem (.ref a) u r) Q E s := by
  rcases g with ⟨kvs, k, e, ey, l, eH⟩ | ⟨kvs, k, b, e, ey, eb, l, eH⟩
  · subst ey eH
    obtain ⟨z, hd, vs, rel, dd⟩ := dk_of I.hok e
    have hz : vs.length ≤ sizeLine := by rw [← rel.length]; exact z
    have hl : (putK kvs k v).length ≤ sizeLine := by have := length_putK kvs k v; omega
    refine wpAny_setItem_pairs (hsz := hz) (kV_is ry) dd fun h' dd' hs => h _ ?_
    have he : ∃ q, h'.get? a = some q := let ⟨q, _, _, hq, _⟩ := dd'; ⟨q, hq⟩
    exact d_write I (by rw [e]; exact True.intro) hs he (dk_new hl hd (rel.put k rv) dd')
  · subst ey eH
    cases (show u = Value.ref b from ry)
    obtain ⟨z, hd, xs, rel, dd⟩ := dt_of I.hok e
    have hz : xs.length ≤ sizeLine := by rw [← Paired.length rel]; exact z
    have hl : (putK kvs k v).length ≤ sizeLine := by have := length_putK kvs k v; omega
    refine wpAny_setItem_heap (hsz := hz) (tupleKind_room_in1 hu) (key_of I.hok eb) dd fun h' dd' hs => h _ ?_
    obtain ⟨q, es, ep, hq, h2, h3, h4, _, h5⟩ := dd'
    refine d_write I (by rw [e]; exact True.intro) hs ⟨q, hq⟩ ⟨hl, hd, _, (rel.put k eb rv).keeps fun c ys ec => ?_, q, es, ep, hq, h2, h3, h4, h5⟩
    rw [upd_ne (ne_of ec e (fun z => nomatch z))]
    exact ec
end
section
variable {X : Cx} {pins : List (Addr × Obj)} {σ : St} {H : Hp} {s : Shared} {a : Addr} {kvs : List (Key × V)} {k : Key} {u : Value} {A : Around} {E : Value → Shared → Prop}
/-- d.pop(k[, x]), there -/
theorem d_pop {v : V} {more : List Value} {Q : Value → Shared → Prop} (I : Inv X pins σ H s) (e : H a = some (.dK kvs)) (ry : RelV (kV k) u) (l : valV kvs k = some v) (hm : more = [] ∨ ∃ x, more = [x])
    (h : ∀ w' s', Inv X pins σ (upd H a (.dK (dropK kvs k))) s' → RelV v w' → Q w' s') : wpAny (model X.prog X.w) A (call (.builtin "dict.pop") (.ref a :: u :: more)) Q E s := by
  obtain ⟨z, hd, vs, rel, dd⟩ := dk_of I.hok e
  obtain ⟨w', hw, rw'⟩ := RelO.some_of (v := v) (o := valueAt vs k) (by rw [← l]; exact rel.val k)
  have hp : (keyPart u).isSome = true := by
    cases k with
    | inl i => obtain ⟨t, q⟩ := (show ∃ t, u = Value.int i t from ry); subst q; rfl
    | inr x => obtain ⟨t, q⟩ := (show ∃ t, u = Value.str x t from ry); subst q; rfl
  have ha : argsOk "dict.pop" ⟨.ref a :: u :: more, []⟩ := by
    rcases hm with q | ⟨x, q⟩
    · subst q; exact PySem.F.args_dict_pop_2 _ _
    · subst q; exact PySem.F.args_dict_pop_3 _ _ _
  refine call_meetsIn PySem.F.slot_dict_pop dd.typeIs PySem.F.entry_dict_pop ha (meets_dict_pop_there (mixKind X.prog X.w) a (kV_is ry) more hm hp)
    ⟨vs, w', dd, by rw [← rel.length]; exact z, hw, fun h' dd' hs => h w' _ ?_ rw'⟩
  have he : ∃ q, h'.get? a = some q := let ⟨q, _, _, hq, _⟩ := dd'; ⟨q, hq⟩
  exact d_write I (by rw [e]; exact True.intro) hs he (dk_new (Nat.le_trans (dropK_le kvs k) z) hd (rel.drop k) dd')
/-- len(d) -/
theorem d_len {Q : Value → Shared → Prop} (I : Inv X pins σ H s) (e : Rd H a (.dK kvs)) (h : ∀ t s', Inv X pins σ H s' → Q (.int kvs.length t) s') : wpAny (model X.prog X.w) A (call (.builtin "len") [.ref a]) Q E s := by
  obtain ⟨z, hd, vs, rel, dd⟩ := dk_rd I.hok e
  refine call_len_dict hd dd (by rw [← rel.length]; rw [sizeLine_eq] at z; omega) ?_
  rw [← rel.length]
  exact h _ _ (I.tok _)
end
/-! ### readings and rules -/
/-- the element of a subscription, not a slice -/
def NoSl (i : Expr) : Prop := ∀ ov iv, subscripted i false ov iv = operate [ov, iv] (getItem ov iv)
theorem subD_of {prog : Program} {w : World} {A : Around} {E : Value → Shared → Prop} {s : Shared} {env : Env} {value slice : Expr} {pos : Pos} {T id : String} {Q : Value → Shared → Prop}
    (hl : typeLookup (.type T) "__getitem__" = pure (some (.builtin id))) (hs : NoSl slice)
    (h : wpAny (model prog w) A (eval value env) (fun o s₁ => wpAny (model prog w) A (eval slice env) (fun i s₂ => s₂.TypeIs o T ∧ wpAny (model prog w) A (getItem o i) Q E s₂) E s₁) E s) :
    wpAny (model prog w) A (eval (.Subscript value slice pos) env) Q E s := by
  refine Subscript_ (wpAny_mono h (fun o s₁ h₁ => wpAny_mono h₁ (fun i s₂ h₂ => ?_) fun _ _ x => x) fun _ _ x => x)
  obtain ⟨hT, h₂⟩ := h₂
  unfold subscriptTail
  refine wpAny_bind ?_
  rw [getitemInPython_of_ne hT.not_modules]
  refine wpAny_bind (wpAny_specialOf hT hl ?_)
  have fin : wpAny (model prog w) A (subscripted slice false o i) (fun r s₃ => wpAny (model prog w) A (letTemporaryGo value o r >>= fun _ => pure r) Q E s₃) E s₂ := by
    rw [hs o i]
    exact wpAny_operating (wpAny_mono h₂ (fun r s₃ h₃ => wpAny_bind (wpAny_letTemporaryGo (wpAny_pure h₃))) fun _ _ x => x)
  first
    | exact wpAny_pure (wpAny_bind fin)
    | exact wpAny_bind (wpAny_pure (wpAny_bind fin))
    | exact wpAny_bind fin
theorem dict_typeIs {X : Cx} {pins : List (Addr × Obj)} {σ : St} {H : Hp} {s : Shared} {a : Addr} {y : V} {o : Option V} (I : Inv X pins σ H s) (g : DGet H a y o) : s.TypeIs (.ref a) "dict" := by
  rcases g with ⟨kvs, k, e, _, _⟩ | ⟨kvs, k, b, e, _, _, _⟩
  · obtain ⟨_, _, vs, _, dd⟩ := dk_rd I.hok e
    exact dd.typeIs
  · obtain ⟨_, _, xs, _, dd⟩ := dt_rd I.hok e
    exact dd.typeIs
/-- d[y] -/
def tDGet (td ty : TE) : TE := fun σ H Q => td σ H fun x H1 => ty σ H1 fun y H2 => ∃ a v, x = .ref a ∧ DGet H2 a y (some v) ∧ Q v H2
/-- y in d, y not in d -/
def tDIn (ty td : TE) : TE := fun σ H Q => ty σ H fun y H1 => td σ H1 fun x H2 => ∃ a o, x = .ref a ∧ DGet H2 a y o ∧ Q (.bl o.isSome) H2
def tDNotIn (ty td : TE) : TE := fun σ H Q => ty σ H fun y H1 => td σ H1 fun x H2 => ∃ a o, x = .ref a ∧ DGet H2 a y o ∧ Q (.bl (!o.isSome)) H2
/-- d[y] = v -/
def sDPut (td ty tv : TE) : TS := fun D σ H => tv σ H fun v H1 => td σ H1 fun x H2 => ty σ H2 fun y H3 => ∃ a H4, x = .ref a ∧ DPut H3 a y v H4 ∧ D.nx σ H4
section
variable {X : Cx} {o i e value : Expr} {pos pos' tpos : Pos} {td ty tv : TE}
theorem pe_dget (hu : X.A.units + 1 < cLine) (ho : PE X o td) (hi : PE X i ty) (hs : NoSl i) : PE X (.Subscript o i pos) (tDGet td ty) := by
  intro pins s σ H Q I h
  refine subD_of PySem.F.slot_dict_getitem.lookup hs (thn (ho pins s σ H _ I h) fun u s1 ⟨x, H1, I1, rx, q1⟩ => thn (hi pins s1 σ H1 _ I1 q1) fun iv s2 ⟨y, H2, I2, ry, a, v, ex, g, q2⟩ => ?_)
  subst ex
  obtain rfl : u = Value.ref a := rx
  exact ⟨dict_typeIs I2 g, d_getItem hu I2 g ry fun w' s3 I3 rw' => ⟨v, H2, I3, rw', q2⟩⟩
theorem pc_din (hu : X.A.units + 1 < cLine) (hi : PE X i ty) (ho : PE X o td) : PC X .In i o (tDIn ty td) := by
  intro pins s σ H Q I h
  refine thn (hi pins s σ H _ I h) fun iv s1 ⟨y, H1, I1, ry, q1⟩ => thn (ho pins s1 σ H1 _ I1 q1) fun u s2 ⟨x, H2, I2, rx, a, ov, ex, g, q2⟩ => ?_
  subst ex
  obtain rfl : u = Value.ref a := rx
  exact d_in hu I2 g ry fun s3 I3 => ⟨.bl ov.isSome, H2, I3, rfl, q2⟩
theorem pc_dnotin (hu : X.A.units + 1 < cLine) (hi : PE X i ty) (ho : PE X o td) : PC X .NotIn i o (tDNotIn ty td) := by
  intro pins s σ H Q I h
  refine thn (hi pins s σ H _ I h) fun iv s1 ⟨y, H1, I1, ry, q1⟩ => thn (ho pins s1 σ H1 _ I1 q1) fun u s2 ⟨x, H2, I2, rx, a, ov, ex, g, q2⟩ => ?_
  subst ex
  obtain rfl : u = Value.ref a := rx
  exact d_notIn hu I2 g ry fun s3 I3 => ⟨.bl (!ov.isSome), H2, I3, rfl, q2⟩
theorem ps_dput (hu : X.A.units + 1 < cLine) (ho : PE X o td) (hi : PE X i ty) (hv : PE X value tv) (hs : swapsWith value (some (.Subscript o i pos')) pos.line X.env = pure false) :
    PS X (.Assign [.Subscript o i pos'] value pos) (sDPut td ty tv) := by
  intro pins s σ H D I h
  refine wpAny_Assign_Subscript (thn (hv pins s σ H _ I h) fun r s1 ⟨v, H1, I1, rv, q1⟩ => thn (ho pins s1 σ H1 _ I1 q1) fun u s2 ⟨x, H2, I2, rx, q2⟩ => thn (hi pins s2 σ H2 _ I2 q2) fun iv s3 ⟨y, H3, I3, ry, a, H4, ex, g, q3⟩ => ?_) hs
  subst ex
  obtain rfl : u = Value.ref a := rx
  exact d_setItem hu I3 g ry rv fun s4 I4 => ⟨σ, H4, I4, q3⟩
end
/-! ### displays -/
theorem dk_empty {P : Program} {w : World} {H : Hp} (h : Heap) (hb : sysModules < h.objs.size) : ObjOk P w H (h.push { cls := .type "dict", data := .dict #[] }) h.objs.size (.dK []) :=
  ⟨Nat.zero_le _, beq_eq_false_iff_ne.mpr (Ne.symm (Nat.ne_of_lt hb)), [], .nil, Heap.DictOf.new h⟩
/-- {}, to be a dict of the kind that is wanted -/
def tDNewK : TE := fun _ H Q => ∀ p, H p = none → Q (.ref p) (upd H p (.dK []))
section
variable {X : Cx} {pos : Pos}
theorem pe_dnewK : PE X (.Dict [] [] pos) tDNewK := fun pins s σ H Q I h =>
  wpAny_Dict_empty ⟨.ref s.heap.objs.size, _, I.laid (a := s.heap.objs.size) (o := .dK []) (t' := s.toks) (fun _ _ q => Heap.get?_push_of_some _ q) (Nat.le_refl _) (dk_empty s.heap I.big), rfl, h _ (I.hok.fresh (Nat.le_refl _))⟩
end
/-! ### methods -/
/-- a method call o.m(e) of a built-in, with one argument: what must be seen of the text -/
structure M1 (X : Cx) (o : Expr) (m : Str) (apos : Pos) (e : Expr) (cpos : Pos) : Prop where
  base : attributeBase o m X.env (eval o X.env) = eval o X.env
  few : ((backTo cpos (starEach [e] X.env)).all (fun x => !x.1) && (backToKw cpos (keywordEach [] X.env)).all (fun x => x.1.isSome)
    && decide (([e] : List Expr).length + ([] : List Keyword).length + (if ([] : List Keyword).isEmpty then 0 else 1) < 30)) = true
  line : (apos.endLine == cpos.line) = true
  trees : backTo cpos (starEach [e] X.env) = [(false, eval e X.env)]
/-- a is a dict, whatever its keys -/
def IsD (H : Hp) (a : Addr) : Prop := (∃ kvs, Rd H a (.dK kvs)) ∨ ∃ kvs, Rd H a (.dT kvs)
theorem isD_at {X : Cx} {pins : List (Addr × Obj)} {σ : St} {H : Hp} {s : Shared} {a : Addr} (I : Inv X pins σ H s) (d : IsD H a) :
    s.TypeIs (.ref a) "dict" ∧ (∀ b, Value.ref a = .ref b → ∃ ob, s.heap.get? b = some ob ∧ ob.dict = none) ∧ (a == sysModules) = false := by
  rcases d with ⟨kvs, e⟩ | ⟨kvs, e⟩
  · obtain ⟨_, hd, vs, _, dd⟩ := dk_rd I.hok e
    refine ⟨dd.typeIs, fun b q => ?_, hd⟩
    cases q
    obtain ⟨ob, _, _, h1, h2, _⟩ := dd
    exact ⟨ob, h1, h2.2.1⟩
  · obtain ⟨_, hd, xs, _, dd⟩ := dt_rd I.hok e
    refine ⟨dd.typeIs, fun b q => ?_, hd⟩
    cases q
    obtain ⟨ob, _, _, h1, h2, _⟩ := dd
    exact ⟨ob, h1, h2.2.1⟩
section
variable {X : Cx} {pins : List (Addr × Obj)} {σ : St} {H : Hp} {s : Shared} {a : Addr} {y d : V} {u r : Value} {o : Option V} {A : Around} {E : Value → Shared → Prop}
end
/-- d.pop(k): there; d.pop(k, x): there or not -/
def tDPop1 (td ty : TE) : TE := fun σ H Q => td σ H fun x H1 => ∃ a, x = .ref a ∧ IsD H1 a ∧ ty σ H1 fun y H2 => ∃ kvs k v, H2 a = some (.dK kvs) ∧ y = kV k ∧ valV kvs k = some v ∧ Q v (upd H2 a (.dK (dropK kvs k)))
section
variable {X : Cx} {o e f : Expr} {apos cpos : Pos} {td ty tx : TE}
theorem pe_dpop1 (ho : PE X o td) (he : PE X e ty) (m : M1 X o "pop" apos e cpos) : PE X (.Call (.Attribute o "pop" apos) [e] [] cpos) (tDPop1 td ty) := by
  intro pins s σ H Q I h
  refine wpAny_Call_method m.base m.few m.line PySem.F.plainAttrs_dict PySem.F.slot_dict_pop PySem.F.type_dict_pop (thn (ho pins s σ H _ I h) fun u s1 ⟨x, H1, I1, rx, a, ex, d, q1⟩ => ?_)
  subst ex
  obtain rfl : u = Value.ref a := rx
  obtain ⟨t1, t2, _⟩ := isD_at I1 d
  refine ⟨t1, t2, ?_⟩
  rw [m.trees]
  refine Calls.callWith_builtin rfl (Calls.evalArgs_plain (Calls.spliced_cons (thn (he pins s1 σ H1 _ I1 q1) fun iv s2 ⟨y, H2, I2, ry, kvs, k, v, ea, ey, l, q2⟩ => Calls.spliced_nil ?_)))
  subst ey
  exact d_pop I2 ea ry l (.inl rfl) fun w' s3 I3 rw' => ⟨v, _, I3, rw', q2⟩
end
/-! ### dict(d): a copy -/
section
variable {X : Cx} {pins : List (Addr × Obj)} {σ : St} {H : Hp} {s : Shared} {a : Addr} {kvs : List (Key × V)} {A : Around} {E : Value → Shared → Prop}
end
section
variable {X : Cx} {pins : List (Addr × Obj)} {σ : St} {H : Hp} {s : Shared} {a : Addr} {y : V} {u : Value} {A : Around} {E : Value → Shared → Prop}
end
end L2
namespace L2
open PySem PySem.Spec PyProof.Rows
section
variable {prog : Program} {w : World} {A : Around} {E : Value → Shared → Prop}
end
section
variable {X : Cx}
end
end L2
namespace L2
open PySem PySem.Spec PyProof.Rows
section
variable {X : Cx} {pins : List (Addr × Obj)} {σ : St} {H : Hp} {s : Shared} {h' : Heap}
/-- .. and one new object is laid -/
theorem Inv.turnedNew {t' : Nat} {ch : List Addr} {T : Addr} {ob : HO} (I : Inv X pins σ H s) (k : ∀ b o, b ∉ ch → s.heap.get? b = some o → h'.get? b = some o) (hf : ∀ b ∈ ch, FpOk X pins H b) (hT : s.heap.objs.size ≤ T)
    (new : ObjOk X.prog X.w (upd H T ob) h' T ob) : Inv X pins σ (upd H T ob) { s with heap := h', toks := t' } := by
  have hn : H T = none := I.hok.fresh hT
  have nit : ∀ b u, H b = some u → b ∉ ch := fun b u e z => by
    have q := (hf b z).1
    rw [q] at e; cases e
  refine I.step (g' := s.gens) (d' := s.drawn) (ch := ch) (fun b hb => ⟨(hf b hb).2.2.2.1, (hf b hb).2.1, (hf b hb).2.2.2.2.1, (hf b hb).2.2.2.2.2⟩) (fun b o _ _ hc e _ => k b o hc e) (fun b o _ _ hc e _ => ⟨o.slots, k b o hc e⟩)
    (fun b o _ e n => ?_) (fun b o hc e => ⟨o, k b o hc e⟩) (fun b xs e => ?_) (fun b o u e => ?_) (fun b ps e => ⟨#[], ?_⟩) (fun m hm => ?_) (fun b u e => ?_) I.bare
  · rw [upd_ne (Nat.ne_of_lt (Nat.lt_of_lt_of_le (Heap.lt_size e) hT))]; exact n
  · rw [upd_ne (ne_of_none e hn)]; exact e
  · rw [upd_ne (ne_of_none e hn)]; exact e
  · rw [upd_ne (ne_of_none e hn), e]; simp
  · obtain ⟨o, es, ep, ho, r⟩ := hm
    exact ⟨o, es, ep, k _ o (fun z => (hf _ z).2.1 rfl) ho, r⟩
  · by_cases hb : b = T
    · subst hb
      rw [upd_same] at e
      cases e
      exact new
    · rw [upd_ne hb] at e
      refine (I.hok b u e).stay (fun c v hc q => k c v ?_ q) (fun c q => by rw [upd_ne (ne_of_none q hn)]; exact q) fun c xs q => by rw [upd_ne (ne_of_none q hn)]; exact q
      rcases hc with z | z
      · rw [z]; exact nit b u e
      · exact nit c _ z
/-! ### locking a thing while a statement runs -/
theorem Inv.lock {d : Addr} {u : HO} (I : Inv X pins σ H s) (h : H d = some u) (mu : Mut (some u)) : ∃ od, Inv X pins σ (upd H d (.frz od u)) s := by
  have x := I.hok d u h
  have ex : ∃ od, s.heap.get? d = some od := by
    cases u with
    | lst xs => obtain ⟨_, _, _, _, e⟩ := x; exact ⟨_, e⟩
    | dK kvs => obtain ⟨_, _, _, _, o, _, _, e, _⟩ := x; exact ⟨o, e⟩
    | dT kvs => obtain ⟨_, _, _, _, o, _, _, e, _⟩ := x; exact ⟨o, e⟩
    | set S n => obtain ⟨o, _, _, _, e, _⟩ := x; exact ⟨o, e⟩
    | ins C dx fs => obtain ⟨_, _, _, e, _⟩ := x; exact ⟨_, e⟩
    | ext φ => obtain ⟨_, ⟨_, e⟩, _⟩ := x; exact ⟨_, e⟩
    | _ => exact False.elim mu
  obtain ⟨od, e⟩ := ex
  have new : ObjOk X.prog X.w (upd H d (.frz od u)) s.heap d (.frz od u) := by
    refine ⟨e, x.stay (fun b v _ q => q) (fun b q => ?_) fun b xs q => ?_⟩
    · rw [upd_ne (fun z => by rw [z, h] at q; cases q; exact mu)]; exact q
    · rw [upd_ne (fun z => by rw [z, h] at q; cases q; exact mu)]; exact q
  exact ⟨od, I.write (x := d) (e := d) (t' := s.toks) (h' := s.heap) (by rw [h]; exact mu) (.inl rfl) (fun b v _ q => q) ⟨od, e⟩ new⟩
theorem Inv.nofrz {d : Addr} {u : HO} (I : Inv X pins σ H s) (h : H d = some u) (mu : Mut (some u)) : ∀ o' u', X.H_0 d ≠ some (.frz o' u') := fun o' u' e => by
  have q := I.base.frzs d o' u' e
  rw [h] at q
  cases q
  exact mu
theorem Inv.unlock {d : Addr} {od : Obj} {u : HO} (I : Inv X pins σ H s) (h : H d = some (.frz od u)) (hn : ∀ o' u', X.H_0 d ≠ some (.frz o' u')) : Inv X pins σ (upd H d u) s := by
  have neH : ∀ b o, H b = some o → (∀ o' u', o ≠ .frz o' u') → b ≠ d := fun b o e hne z => by
    rw [z, h] at e
    cases e
    exact hne _ _ rfl
  have neN : ∀ b, H b = none → b ≠ d := fun b e z => by rw [z, h] at e; cases e
  refine ⟨I.ok, I.os, I.bare, ⟨I.base.keep, I.base.slot, fun b o e n hx => ?_, I.base.there, fun b xs e => ?_, fun b o x e => ?_, fun b ps e => ?_⟩, I.loc, I.cell, ?_, fun x c e => ?_, fun p hp => ?_, fun b o e => ?_, I.len⟩
  · rw [upd_ne (neN b (I.base.free b o e n hx))]; exact I.base.free b o e n hx
  · have q := I.base.tups b xs e
    rw [upd_ne (neH b _ q (fun _ _ z => nomatch z))]; exact q
  · have q := I.base.frzs b o x e
    rw [upd_ne (fun z => by rw [z] at e; exact hn _ _ e)]; exact q
  · obtain ⟨m, q⟩ := I.base.tbls b ps e
    exact ⟨m, by rw [upd_ne (neH b _ q (fun _ _ z => nomatch z))]; exact q⟩
  · rw [upd_ne (neN _ I.free)]; exact I.free
  · rw [upd_ne (neN c (I.freeC x c e))]; exact I.freeC x c e
  · obtain ⟨e, n, r⟩ := I.pin p hp
    exact ⟨e, by rw [upd_ne (neN _ n)]; exact n, r⟩
  · by_cases hb : b = d
    · rw [hb, upd_same] at e
      cases e
      rw [hb]
      obtain ⟨_, x⟩ := I.hok d _ h
      exact x.stay (fun c v _ q => q) (fun c q => by rw [upd_ne (neH c _ q (fun _ _ z => nomatch z))]; exact q) fun c xs q => by rw [upd_ne (neH c _ q (fun _ _ z => nomatch z))]; exact q
    · rw [upd_ne hb] at e
      exact (I.hok b o e).stay (fun c v _ q => q) (fun c q => by rw [upd_ne (neH c _ q (fun _ _ z => nomatch z))]; exact q) fun c xs q => by rw [upd_ne (neH c _ q (fun _ _ z => nomatch z))]; exact q
end
/-- the statement runs while the thing at d is locked (read, not written); d and what stands there are the reading's choice -/
def tLock (t : TS) : TS := fun D σ H => ∃ d u, H d = some u ∧ Mut (some u) ∧ ∀ od, t ⟨fun σ' H' => H' d = some (.frz od u) ∧ D.nx σ' (upd H' d u), fun v H' => H' d = some (.frz od u) ∧ D.rt v (upd H' d u), fun σ' H' => H' d = some (.frz od u) ∧ D.bk σ' (upd H' d u), fun σ' H' => H' d = some (.frz od u) ∧ D.ct σ' (upd H' d u)⟩ σ (upd H d (.frz od u))
def tLockE (t : TE) : TE := fun σ H Q => ∃ d u, H d = some u ∧ Mut (some u) ∧ ∀ od, t σ (upd H d (.frz od u)) fun v H' => H' d = some (.frz od u) ∧ Q v (upd H' d u)
section
variable {X : Cx}
theorem ps_lock {st : Stmt} {t : TS} (h : PS X st t) : PS X st (tLock t) := by
  intro pins s σ H D I hw
  obtain ⟨d, u, hd, mu, hw⟩ := hw
  obtain ⟨od, I1⟩ := I.lock hd mu
  refine thn (h pins s σ _ _ I1 (hw od)) fun f s1 q => ?_
  cases f with
  | next => obtain ⟨σ', H', I2, e, q⟩ := q; exact ⟨σ', _, I2.unlock e (I.nofrz hd mu), q⟩
  | brk => obtain ⟨σ', H', I2, e, q⟩ := q; exact ⟨σ', _, I2.unlock e (I.nofrz hd mu), q⟩
  | cont => obtain ⟨σ', H', I2, e, q⟩ := q; exact ⟨σ', _, I2.unlock e (I.nofrz hd mu), q⟩
  | ret v => obtain ⟨x, σ', H', I2, r, e, q⟩ := q; exact ⟨x, σ', _, I2.unlock e (I.nofrz hd mu), r, q⟩
theorem pe_lock {e : Expr} {t : TE} (h : PE X e t) : PE X e (tLockE t) := by
  intro pins s σ H Q I hw
  obtain ⟨d, u, hd, mu, hw⟩ := hw
  obtain ⟨od, I1⟩ := I.lock hd mu
  refine thn (h pins s σ _ _ I1 (hw od)) fun v s1 ⟨x, H1, I2, r, e2, q⟩ => ?_
  exact ⟨x, _, I2.unlock e2 (I.nofrz hd mu), r, q⟩
/-! ### one iterator just laid -/
theorem pi_one {tg : Expr} {pins : List (Addr × Obj)} {σ : St} {H : Hp} {s : Shared} {R : It → Hp → Prop} {J : It} {tn : Nat → Heap → Prop} {tk : Nat} (I : Inv X pins σ H s) (o : Obj)
    (T : Turn X.prog X.w X.K tg J [s.heap.objs.size] s.heap.objs.size tn) (st : tn 0 (s.heap.push o)) (q : R J H) : PIE X pins σ tg R (.ref s.heap.objs.size) { s with heap := s.heap.push o, toks := tk } := by
  refine ⟨s.heap.objs.size, [s.heap.objs.size], tn, J, H, rfl, I.kept fun b ob e => Heap.get?_push_of_some _ e, T, st, fun b hb => ?_, q⟩
  have e : b = s.heap.objs.size := by simpa using hb
  subst e
  exact I.fpOk (Nat.le_refl _) (I.hok.fresh (Nat.le_refl _))
end
/-! ### range with a step -/
section
variable {X : Cx} {tg : Expr}
end
/-! ### reversed(list) -/
section
variable {X : Cx} {tg : Expr}
end
/-! ### a str -/
/-! ### a dict's keys: any dict's entries -/
section
variable {prog : Program} {w : World} {A : Around} {E : Value → Shared → Prop} {s : Shared}
theorem iter_keys {d : Addr} {o : Obj} {es : Array DictEntry} {ep : Nat} {Q : Value → Shared → Prop} (hd : (d == sysModules) = false) (ho : s.heap.get? d = some o) (hc : o.ExactDict) (hdat : o.data = .dict es ep)
    (hQ : Q (.ref s.heap.objs.size) { s with heap := s.heap.push { cls := .type "dict_keyiterator", data := .fields #[.ref d, .int 0 0, .int es.size 0, .int ep 0] } }) :
    wpAny (model prog w) A (pyIter (.ref d)) Q E s := by
  have hT : s.TypeIs (.ref d) "dict" := ⟨o, ho, hc.1⟩
  refine wpAny_pyIter_slot hT F.slot_dict_iter (wpAny_call_entry F.slot_dict_iter hT F.entry_dict_iter ?_ (F.args_dict_iter_1 _))
  unfold Builtin.«dict.__iter__»
  refine wpAny_bind ?_
  unfold Builtin.Dict.dictSlotNone
  refine wpAny_bind (wpAny_notOrdered_dict hT ?_)
  show wpAny _ _ (pure (Value.ref d)) _ _ s
  refine wpAny_pure ?_
  show wpAny _ _ (Builtin.Dict.showsAll d >>= _) _ _ s
  unfold Builtin.Dict.showsAll
  rw [if_neg (by rw [hd]; exact Bool.false_ne_true)]
  refine wpAny_bind (wpAny_pure ?_)
  refine wpAny_bind (wpAny_dictEntries ho hdat ?_)
  refine wpAny_bind (wpAny_dictEpoch ho hdat ?_)
  refine wpAny_bind (wpAny_newObj_type (wpAny_pure ⟨_, rfl, "dict_keyiterator", _, ⟨_, Heap.get?_push_size _ rfl, rfl⟩, F.slot_dict_keyiterator_next.lookup, ?_⟩))
  simpa [rawInt] using hQ
theorem next_key_item {it d : Addr} {i n ep : Nat} {od : Obj} {es : Array DictEntry} {en : DictEntry} {Q : Option Value → Shared → Prop} (hit : s.heap.IsKeyIter it d i n ep) (hod : s.heap.get? d = some od) (hdd : od.data = .dict es ep)
    (hsz : es.size = n) (hx : es[i]? = some en) (hQ : ∀ h', h'.IsKeyIter it d (i + 1) n ep → Heap.SameBut it s.heap h' → Q (some en.key) { s with heap := h' }) : wpAny (model prog w) A (pyNext (.ref it)) Q E s := by
  obtain ⟨o, ho, hc, hd⟩ := id hit
  unfold pyNext
  refine wpAny_bind (wpAny_attempt (wpAny_callSpecial?_slot (name := Str.ofString "__next__") hit.typeIs F.slot_dict_keyiterator_next
    (wpAny_call_entry F.slot_dict_keyiterator_next hit.typeIs F.entry_dict_keyiterator_next ?_ (F.args_dict_keyiterator_next_1 _))))
  refine wpAny_bind (wpAny_pure ?_)
  refine wpAny_bind ?_
  refine wpAny_bind ?_
  first | refine wpAny_bind (wpAny_typeNameOfWhole_keyiter hit.typeIs (wpAny_pure ?_)) | refine wpAny_bind (wpAny_typeNameOf_keyiter hit.typeIs (wpAny_pure ?_))
  refine wpAny_bind (wpAny_fieldsOf ho hd ?_)
  have hown : Builtin.Dict_items.ownsTuple "dict_keyiterator" = false := by decide
  simp only [hown, Bool.false_eq_true, if_false]
  show wpAny _ _ (if (Value.ref d == Value.none) = true then _ else _) _ _ s
  rw [if_neg (show ¬ ((Value.ref d == Value.none) = true) from Bool.false_ne_true)]
  refine wpAny_bind (wpAny_pure ?_)
  refine wpAny_bind (wpAny_dictEntries hod hdd ?_)
  rw [if_neg (by rw [hsz]; simp)]
  refine wpAny_bind (wpAny_pure ?_)
  refine wpAny_bind (wpAny_dictEpoch hod hdd ?_)
  rw [if_neg (by simp)]
  refine wpAny_pure ?_
  obtain ⟨hlt', hen⟩ := Array.getElem?_eq_some_iff.mp hx
  simp only [show ¬ ((i : Int) < 0) from by omega, if_false, Int.toNat_natCast, Array.getElem?_eq_getElem hlt']
  refine wpAny_bind ?_
  first | refine wpAny_bind (wpAny_typeNameOfWhole_keyiter hit.typeIs (wpAny_pure ?_)) | refine wpAny_bind (wpAny_typeNameOf_keyiter hit.typeIs (wpAny_pure ?_))
  refine wpAny_bind (wpAny_isOneOf_keyiter hit.typeIs ?_)
  show wpAny _ _ (setField (.ref it) 1 (rawInt ((i : Int) + 1)) >>= _) _ _ s
  refine wpAny_bind (wpAny_setField ho hd (by simp) ?_)
  have hit' : (s.heap.update it (Obj.mapFields (·.setIfInBounds 1 (rawInt ((i : Int) + 1))))).IsKeyIter it d (i + 1) n ep :=
    ⟨_, Heap.get?_update_self _ ho (Obj.isFreed_of_fields (Obj.data_mapFields hd _)), (Obj.cls_mapFields ..).trans hc, by rw [Obj.data_mapFields hd]; simp [rawInt]⟩
  refine wpAny_bind (wpAny_holding ?_)
  refine wpAny_bind (wpAny_isOneOf_keyiter (s := { s with heap := s.heap.update it (Obj.mapFields (·.setIfInBounds 1 (rawInt ((i : Int) + 1)))) }) hit'.typeIs ?_)
  show wpAny _ _ (pure es[i].key) _ _ _
  rw [hen]
  exact wpAny_pure (wpAny_pure ⟨_, rfl, wpAny_pure (hQ _ hit' (Heap.SameBut.update ..))⟩)
theorem next_key_end {it d : Addr} {i n ep : Nat} {od : Obj} {es : Array DictEntry} {Q : Option Value → Shared → Prop} (hh : A.handled = none) (hit : s.heap.IsKeyIter it d i n ep) (hod : s.heap.get? d = some od) (hdd : od.data = .dict es ep)
    (hsz : es.size = n) (hge : n ≤ i) (hQ : ∀ h', Heap.ExtBut it s.heap h' → Q none { s with heap := h' }) : wpAny (model prog w) A (pyNext (.ref it)) Q E s := by
  obtain ⟨o, ho, hc, hd⟩ := id hit
  unfold pyNext
  refine wpAny_bind (wpAny_attempt (wpAny_callSpecial?_slot (name := Str.ofString "__next__") hit.typeIs F.slot_dict_keyiterator_next
    (wpAny_call_entry F.slot_dict_keyiterator_next hit.typeIs F.entry_dict_keyiterator_next ?_ (F.args_dict_keyiterator_next_1 _))))
  refine wpAny_bind (wpAny_pure ?_)
  refine wpAny_bind ?_
  refine wpAny_bind ?_
  first | refine wpAny_bind (wpAny_typeNameOfWhole_keyiter hit.typeIs (wpAny_pure ?_)) | refine wpAny_bind (wpAny_typeNameOf_keyiter hit.typeIs (wpAny_pure ?_))
  refine wpAny_bind (wpAny_fieldsOf ho hd ?_)
  have hown : Builtin.Dict_items.ownsTuple "dict_keyiterator" = false := by decide
  simp only [hown, Bool.false_eq_true, if_false]
  show wpAny _ _ (if (Value.ref d == Value.none) = true then _ else _) _ _ s
  rw [if_neg (show ¬ ((Value.ref d == Value.none) = true) from Bool.false_ne_true)]
  refine wpAny_bind (wpAny_pure ?_)
  refine wpAny_bind (wpAny_dictEntries hod hdd ?_)
  rw [if_neg (by rw [hsz]; simp)]
  refine wpAny_bind (wpAny_pure ?_)
  refine wpAny_bind (wpAny_dictEpoch hod hdd ?_)
  rw [if_neg (by simp)]
  refine wpAny_pure ?_
  have hge' : es.size ≤ i := by rw [hsz]; exact hge
  simp only [show ¬ ((i : Int) < 0) from by omega, if_false, Int.toNat_natCast, Array.getElem?_eq_none hge']
  refine wpAny_bind ?_
  first | refine wpAny_bind (wpAny_typeNameOfWhole_keyiter hit.typeIs (wpAny_pure ?_)) | refine wpAny_bind (wpAny_typeNameOf_keyiter hit.typeIs (wpAny_pure ?_))
  show wpAny _ _ (setField (.ref it) 0 .none >>= _) _ _ s
  refine wpAny_bind (wpAny_setField ho hd (by simp) ?_)
  show wpAny _ _ (newExc (.type "StopIteration") [] >>= _) _ _ _
  refine wpAny_bind ?_
  simp only [newExc, newTuple]
  refine wpAny_bind (wpAny_newObj_type ?_ (by size_fits))
  refine wpAny_bind (m := firstArgMember _ _) (wpAny_of_eq (a := Value.none) (by first | rfl | (simp only [firstArgMember]; rfl)) ?_)
  refine wpAny_newObj_type ?_ (by size_fits)
  simp only [raiseNew]
  refine wpAny_bind (wpAny_handled ?_)
  rw [show A.in1.handled = none from hh]
  refine wpAny_bind (wpAny_pure (wpAny_throw ?_))
  refine wpAny_bind (wpAny_isInstance (T := "StopIteration") (b := true) ⟨_, Heap.get?_push_size _ rfl, rfl⟩ isSubtype_stop ?_)
  exact wpAny_pure (hQ _ (((Heap.SameBut.update ..).extBut.push _).push _))
end
/-! ### a locked dict -/
theorem kv_get {κ : Type} {kvs : List (κ × V)} {vs : List (κ × Value)} (h : KV kvs vs) : ∀ {i : Nat} {k : κ} {v : V}, kvs[i]? = some (k, v) → ∃ u, vs[i]? = some (k, u) ∧ RelV v u := by
  unfold KV at h
  induction h with
  | nil => intro i k v e; simp at e
  | @cons a b l₁ l₂ r t ih =>
    intro i k v e
    cases i with
    | zero =>
      simp only [List.getElem?_cons_zero, Option.some.injEq] at e
      subst e
      refine ⟨b.2, ?_, r.2⟩
      simp only [List.getElem?_cons_zero]
      exact congrArg some (Prod.ext r.1.symm rfl)
    | succ j =>
      simp only [List.getElem?_cons_succ] at e ⊢
      exact ih e
theorem paired_get {α β : Type} {G : α → β → Prop} {l₁ : List α} {l₂ : List β} (h : Paired G l₁ l₂) : ∀ {i : Nat} {a : α}, l₁[i]? = some a → ∃ b, l₂[i]? = some b ∧ G a b := by
  induction h with
  | nil => intro i a e; simp at e
  | @cons a b l₁ l₂ r t ih =>
    intro i a' e
    cases i with
    | zero =>
      simp only [List.getElem?_cons_zero, Option.some.injEq] at e
      subst e
      exact ⟨b, rfl, r⟩
    | succ j =>
      simp only [List.getElem?_cons_succ] at e ⊢
      exact ih e
theorem relV_key {k : Key} {u : Value} (h : keyIs k u = true) : RelV (kV k) u := by
  rcases keyIs_shape h with ⟨i, t, rfl, rfl⟩ | ⟨x, t, rfl, rfl⟩
  · exact ⟨t, rfl⟩
  · exact ⟨t, rfl⟩
section
variable {X : Cx} {pins : List (Addr × Obj)} {σ : St} {H : Hp} {s : Shared} {d : Addr} {o : Obj}
theorem Inv.frzK {kvs : List (Key × V)} (I : Inv X pins σ H s) (h : H d = some (.frz o (.dK kvs))) :
    (d == sysModules) = false ∧ s.heap.get? d = some o ∧ o.ExactDict ∧ ∃ (es : Array DictEntry) (ep : Nat) (vs : List (Key × Value)), o.data = .dict es ep ∧ es.size = kvs.length ∧ KV kvs vs ∧ s.heap.DictAt (mixKind X.prog X.w) d vs ep := by
  obtain ⟨hd, z, hs, vs, kv, o', es, ep, ho, hx, hdt, r⟩ := I.hok d _ h
  rw [hd] at ho
  cases ho
  refine ⟨hs, hd, hx, es, ep, vs, hdt, ?_, kv, o, es, hd, hx, hdt, r⟩
  have l1 := r.2.1.length
  have l2 : kvs.length = vs.length := Paired.length kv
  rw [Array.length_toList] at l1
  omega
/-- the same for tuple keys -/
theorem Inv.frzT {kvs : List (List Key × V)} (I : Inv X pins σ H s) (h : H d = some (.frz o (.dT kvs))) :
    (d == sysModules) = false ∧ s.heap.get? d = some o ∧ o.ExactDict ∧ ∃ (es : Array DictEntry) (ep : Nat), o.data = .dict es ep ∧ es.size = kvs.length ∧
      ∀ (i : Nat) (k : List Key) (v : V), kvs[i]? = some (k, v) → ∃ (en : DictEntry) (q : Addr), es[i]? = some en ∧ en.key = .ref q ∧ H q = some (.tup (k.map kV)) := by
  obtain ⟨hd, z, hs, xs, pr, o', es, ep, ho, hx, hdt, he, _⟩ := I.hok d _ h
  rw [hd] at ho
  cases ho
  refine ⟨hs, hd, hx, es, ep, hdt, ?_, fun i k v e => ?_⟩
  · have l1 : es.size = xs.length := size_of_entries he
    have l2 : kvs.length = xs.length := Paired.length pr
    omega
  · obtain ⟨b, hb, e1, e2, _⟩ := paired_get pr e
    have q := entry_at he i
    rw [hb] at q
    exact ⟨_, b.2.1, q, rfl, e2⟩
end
/-- the keys of the locked dict at d, in their order -/
def Itk (d : Addr) (o : Obj) (kvs : List (Key × V)) : It :=
  ⟨fun i H => H d = some (.frz o (.dK kvs)) ∧ i < kvs.length, fun i H x H' => H' = H ∧ ∃ k v, kvs[i]? = some (k, v) ∧ x = kV k, fun i H => H d = some (.frz o (.dK kvs)) ∧ kvs.length ≤ i⟩
/-- .. of tuple keys: the key's own tuple -/
def Itkt (d : Addr) (o : Obj) (kvs : List (List Key × V)) : It :=
  ⟨fun i H => H d = some (.frz o (.dT kvs)) ∧ i < kvs.length, fun i H x H' => H' = H ∧ ∃ (k : List Key) (v : V) (q : Addr), kvs[i]? = some (k, v) ∧ x = .ref q ∧ H q = some (.tup (k.map kV)), fun i H => H d = some (.frz o (.dT kvs)) ∧ kvs.length ≤ i⟩
/-- the pairs, each a new tuple -/
def Iti (d : Addr) (o : Obj) (kvs : List (Key × V)) : It :=
  ⟨fun i H => H d = some (.frz o (.dK kvs)) ∧ i < kvs.length, fun i H x H' => ∃ T k v, kvs[i]? = some (k, v) ∧ x = .ref T ∧ H T = none ∧ H' = upd H T (.tup [kV k, v]), fun i H => H d = some (.frz o (.dK kvs)) ∧ kvs.length ≤ i⟩
theorem dict_ep {o : Obj} {es es' : Array DictEntry} {ep ep' : Nat} (h : o.data = .dict es ep) (h' : o.data = .dict es' ep') : es' = es ∧ ep' = ep := by
  rw [h] at h'
  cases h'
  exact ⟨rfl, rfl⟩
section
variable {P : Program} {w : World} {K : PySem.W.Frag} {tg : Expr} {d : Addr} {o : Obj} {es : Array DictEntry} {ep : Nat}
theorem turn_keys {kvs : List (Key × V)} (it : Addr) (hod : o.data = .dict es ep) : Turn P w K tg (Itk d o kvs) [it] it (fun i h => h.IsKeyIter it d i kvs.length ep) where
  mem := by simp
  obj := fun i h st b hb => by
    have e : b = it := by simpa using hb
    subst e
    obtain ⟨oi, e, c, dd⟩ := st
    exact ⟨oi, e, fun v z => by rw [dd] at z; cases z⟩
  keep := fun i h h' st k => st.at fun oi e => k it (by simp) oi e
  item := by
    intro X hP hw hK hc i pins s σ H E I hf st hg
    subst hP hw hK
    obtain ⟨hd, hi⟩ := hg
    obtain ⟨f0, f1, f2, f3, f4, f5⟩ := hf it (by simp)
    obtain ⟨hs, hgd, hx, es', ep', vs, hdt, hsz, kv, hm⟩ := I.frzK hd
    obtain ⟨rfl, rfl⟩ := dict_ep hod hdt
    obtain ⟨⟨k, v⟩, hkv⟩ : ∃ p, kvs[i]? = some p := ⟨kvs[i], List.getElem?_eq_getElem hi⟩
    obtain ⟨u, hu, ru⟩ := kv_get kv hkv
    have hl : kvs.length = vs.length := Paired.length kv
    rw [hl] at st
    refine wpAny_pyNext_dict_item st hm hu fun key h' hkey st' sb => ?_
    have I1 : Inv X pins σ H { s with heap := h' } := I.turned (t' := s.toks) (fun b ob hb e => (sb.2 b hb).trans e) f0 f1 f3 f4 f5
    obtain ⟨oi, e, c, dd⟩ := id st'
    refine ⟨key, rfl, go_of (s := { s with heap := h' }) e c dd (by decide) ⟨kV k, H, I1, relV_key (show keyIs k key = true from hkey), ⟨rfl, k, v, hkv, rfl⟩, ?_, fun b hb => (hf b hb).1⟩⟩
    show h'.IsKeyIter it d (i + 1) kvs.length _
    rw [hl]
    exact st'
  done := by
    intro X hP hw hK hc i pins s σ H E I hf st hg
    subst hP hw hK
    obtain ⟨hd, hi⟩ := hg
    obtain ⟨f0, f1, f2, f3, f4, f5⟩ := hf it (by simp)
    obtain ⟨hs, hgd, hx, es', ep', vs, hdt, hsz, kv, hm⟩ := I.frzK hd
    obtain ⟨rfl, rfl⟩ := dict_ep hod hdt
    exact next_key_end (I.ok.hd hc) st hgd hdt hsz hi fun h' eb => ⟨rfl, I.turned (t' := s.toks) (fun b ob hb e => eb b ob hb e) f0 f1 f3 f4 f5⟩
  self := fun A i s Q E st h => wpAny_pyIter_keyiter st h
theorem turn_keysT {kvs : List (List Key × V)} (it : Addr) (hod : o.data = .dict es ep) : Turn P w K tg (Itkt d o kvs) [it] it (fun i h => h.IsKeyIter it d i kvs.length ep) where
  mem := by simp
  obj := fun i h st b hb => by
    have e : b = it := by simpa using hb
    subst e
    obtain ⟨oi, e, c, dd⟩ := st
    exact ⟨oi, e, fun v z => by rw [dd] at z; cases z⟩
  keep := fun i h h' st k => st.at fun oi e => k it (by simp) oi e
  item := by
    intro X hP hw hK hc i pins s σ H E I hf st hg
    subst hP hw hK
    obtain ⟨hd, hi⟩ := hg
    obtain ⟨f0, f1, f2, f3, f4, f5⟩ := hf it (by simp)
    obtain ⟨hs, hgd, hx, es', ep', hdt, hsz, ent⟩ := I.frzT hd
    obtain ⟨rfl, rfl⟩ := dict_ep hod hdt
    obtain ⟨⟨k, v⟩, hkv⟩ : ∃ p, kvs[i]? = some p := ⟨kvs[i], List.getElem?_eq_getElem hi⟩
    obtain ⟨en, q, hen, hkey, hq⟩ := ent i k v hkv
    refine next_key_item st hgd hdt hsz hen fun h' st' sb => ?_
    have I1 : Inv X pins σ H { s with heap := h' } := I.turned (t' := s.toks) (fun b ob hb e => (sb.2 b hb).trans e) f0 f1 f3 f4 f5
    obtain ⟨oi, e, c, dd⟩ := id st'
    exact ⟨en.key, rfl, go_of (s := { s with heap := h' }) e c dd (by decide) ⟨.ref q, H, I1, hkey, ⟨rfl, k, v, q, hkv, rfl, hq⟩, st', fun b hb => (hf b hb).1⟩⟩
  done := by
    intro X hP hw hK hc i pins s σ H E I hf st hg
    subst hP hw hK
    obtain ⟨hd, hi⟩ := hg
    obtain ⟨f0, f1, f2, f3, f4, f5⟩ := hf it (by simp)
    obtain ⟨hs, hgd, hx, es', ep', hdt, hsz, ent⟩ := I.frzT hd
    obtain ⟨rfl, rfl⟩ := dict_ep hod hdt
    exact next_key_end (I.ok.hd hc) st hgd hdt hsz hi fun h' eb => ⟨rfl, I.turned (t' := s.toks) (fun b ob hb e => eb b ob hb e) f0 f1 f3 f4 f5⟩
  self := fun A i s Q E st h => by
    refine wpAny_pyIter_slot st.typeIs F.slot_dict_keyiterator_iter (wpAny_call_entry F.slot_dict_keyiterator_iter st.typeIs F.entry_dict_keyiterator_iter ?_ (F.args_dict_keyiterator_iter_1 _))
    show wpAny _ _ (ret (.ref it)) _ _ s
    exact wpAny_pure ⟨_, rfl, "dict_keyiterator", _, st.typeIs, F.slot_dict_keyiterator_next.lookup, h⟩
theorem turn_items {kvs : List (Key × V)} {elts : List Expr} {kk : Nat} {tpos : Pos} (it : Addr) (hod : o.data = .dict es ep) :
    Turn P w K (.Tuple elts kk tpos) (Iti d o kvs) [it] it (fun i h => ∃ ok ov, IsItemIter h it d i kvs.length ep ok ov) where
  mem := by simp
  obj := fun i h st b hb => by
    have e : b = it := by simpa using hb
    subst e
    obtain ⟨ok, ov, e⟩ := st
    exact ⟨_, e, fun v z => nomatch z⟩
  keep := fun i h h' st k => let ⟨ok, ov, e⟩ := st; ⟨ok, ov, k it (by simp) _ e⟩
  item := by
    intro X hP hw hK hc i pins s σ H E I hf st hg
    subst hP hw hK
    obtain ⟨hd, hi⟩ := hg
    obtain ⟨hs, hgd, hx, es', ep', vs, hdt, hsz, kv, hm⟩ := I.frzK hd
    obtain ⟨rfl, rfl⟩ := dict_ep hod hdt
    obtain ⟨⟨k, v⟩, hkv⟩ : ∃ p, kvs[i]? = some p := ⟨kvs[i], List.getElem?_eq_getElem hi⟩
    obtain ⟨u, hu, ru⟩ := kv_get kv hkv
    have hl : kvs.length = vs.length := Paired.length kv
    obtain ⟨ok, ov, he⟩ := st
    rw [hl] at he
    have hlt : it < s.heap.objs.size := Heap.lt_size he
    refine wpAny_pyNext_items_item he hm hu fun key h' hkey ho hT hz hk => ?_
    refine ⟨_, rfl, wpAny_letOwnedTupleGo_items (s := { s with heap := h' }) ho fun h'' he' sb => ?_⟩
    have hT2 : h''.get? s.heap.objs.size = some { cls := .type "tuple", data := .seq #[key, u] } := (sb.2 _ (Nat.ne_of_gt hlt)).trans hT
    have new : ObjOk X.prog X.w (upd H s.heap.objs.size (.tup [kV k, v])) h'' s.heap.objs.size (.tup [kV k, v]) :=
      ⟨by show 2 ≤ sizeLine; decide, [key, u], .cons (relV_key (show keyIs k key = true from hkey)) (.cons ru .nil), ⟨_, hT2, rfl, _, rfl⟩⟩
    have I1 : Inv X pins σ (upd H s.heap.objs.size (.tup [kV k, v])) { s with heap := h'' } :=
      I.turnedNew (t' := s.toks) (ch := [it]) (fun b ob hb e => (sb.2 b (by simpa using hb)).trans (hk b ob (by simpa using hb) e)) hf (Nat.le_refl _) new
    refine ⟨.ref s.heap.objs.size, _, I1, rfl, ⟨_, k, v, hkv, rfl, I.hok.fresh (Nat.le_refl _), rfl⟩, ⟨key, u, ?_⟩, fun b hb => ?_⟩
    · rw [hl]; exact he'
    · have e : b = it := by simpa using hb
      rw [e, upd_ne (Nat.ne_of_lt hlt)]
      exact (hf it (by simp)).1
  done := by
    intro X hP hw hK hc i pins s σ H E I hf st hg
    subst hP hw hK
    obtain ⟨hd, hi⟩ := hg
    obtain ⟨f0, f1, f2, f3, f4, f5⟩ := hf it (by simp)
    obtain ⟨hs, hgd, hx, es', ep', vs, hdt, hsz, kv, hm⟩ := I.frzK hd
    obtain ⟨rfl, rfl⟩ := dict_ep hod hdt
    have hl : kvs.length = vs.length := Paired.length kv
    obtain ⟨ok, ov, he⟩ := st
    rw [hl] at he
    exact wpAny_pyNext_items_end (I.ok.hd hc) he hm (List.getElem?_eq_none (by omega)) fun h' eb => ⟨rfl, I.turned (t' := s.toks) (fun b ob hb e => eb b ob hb e) f0 f1 f3 f4 f5⟩
  self := fun A i s Q E st h => let ⟨_, _, e⟩ := st; PySem.W.kcp_self e h
end
/-! ### for k in d, d.keys(), d.values(), d.items() -/
/-- the dict is locked (tLock, or by the caller) -/
def iKeys (td : TE) : TI := fun σ H R => td σ H fun x H1 => ∃ d o, x = .ref d ∧ ((∃ kvs, H1 d = some (.frz o (.dK kvs)) ∧ R (Itk d o kvs) H1) ∨ ∃ kvs, H1 d = some (.frz o (.dT kvs)) ∧ R (Itkt d o kvs) H1)
def iItems (td : TE) : TI := fun σ H R => td σ H fun x H1 => ∃ d o kvs, x = .ref d ∧ H1 d = some (.frz o (.dK kvs)) ∧ R (Iti d o kvs) H1
section
variable {X : Cx} {tg e : Expr} {td : TE} {apos cpos : Pos}
theorem pi_keys (he : PE X e td) : PI X tg e (iKeys td) := by
  intro pins s σ H R I h
  refine thn (he pins s σ H _ I h) fun u s1 ⟨x, H1, I1, rx, d, o, ex, q⟩ => ?_
  subst ex
  obtain rfl : u = Value.ref d := rx
  rcases q with ⟨kvs, hd, q⟩ | ⟨kvs, hd, q⟩
  · obtain ⟨hs, hgd, hx, es, ep, vs, hdt, hsz, kv, hm⟩ := I1.frzK hd
    refine iter_keys hs hgd hx hdt (pi_one (tk := s1.toks) I1 _ (turn_keys _ hdt) ⟨_, Heap.get?_push_size _ rfl, rfl, ?_⟩ q)
    rw [hsz] <;> rfl
  · obtain ⟨hs, hgd, hx, es, ep, hdt, hsz, ent⟩ := I1.frzT hd
    refine iter_keys hs hgd hx hdt (pi_one (tk := s1.toks) I1 _ (turn_keysT _ hdt) ⟨_, Heap.get?_push_size _ rfl, rfl, ?_⟩ q)
    rw [hsz] <;> rfl
theorem pi_items {elts : List Expr} {kk : Nat} {tpos : Pos} (he : PE X e td) (hbase : attributeBase e "items" X.env (eval e X.env) = eval e X.env := by rfl) (hline : (apos.endLine == cpos.line) = true := by rfl) :
    PI X (.Tuple elts kk tpos) (.Call (.Attribute e "items" apos) [] [] cpos) (iItems td) := by
  intro pins s σ H R I h
  refine wpAny_Call_method (T := "dict") (id := "dict.items") hbase rfl hline F.plainAttrs_dict F.slot_dict_items F.type_dict_items (thn (he pins s σ H _ I h) fun u s1 ⟨x, H1, I1, rx, d, o, kvs, ex, hd, q⟩ => ?_)
  subst ex
  obtain rfl : u = Value.ref d := rx
  obtain ⟨hs, hgd, hx, es, ep, vs, hdt, hsz, kv, hm⟩ := I1.frzK hd
  have hl : kvs.length = vs.length := Paired.length kv
  refine ⟨hm.dictOf.typeIs, hm.dictOf.mapOf.noDict, ?_⟩
  have I2 : Inv X pins σ H1 { s1 with heap := s1.heap.push { cls := .type "dict_items", data := .fields #[.ref d] } } := I1.kept (t' := s1.toks) fun b ob q => Heap.get?_push_of_some _ q
  have fin : wpAny (model X.prog X.w) X.A (pyIter (.ref s1.heap.objs.size)) (PIE X pins σ (.Tuple elts kk tpos) R) X.xe { s1 with heap := s1.heap.push { cls := .type "dict_items", data := .fields #[.ref d] } } := by
    refine wpAny_pyIter_items (d := d) (knd := mixKind X.prog X.w) ⟨_, Heap.get?_push_size _ rfl, rfl, rfl⟩ (hm.push _) (pi_one (tk := s1.toks) I2 _ (turn_items _ hdt) ⟨.none, .none, ?_⟩ q)
    rw [hl]
    exact Heap.get?_push_size _ rfl
  show wpAny _ _ (callWith cpos (.builtin "dict.items") [.ref d] [] []) _ X.xe s1
  exact method_meetsIn F.slot_dict_items F.entry_dict_items rfl (PySem.evalArgs_none ⟨rfl, hm.dictOf.typeIs, F.args_dict_items_1 _, _, meets_dict_items (mixKind X.prog X.w) d hs, ⟨vs, hm.dictOf⟩, fin⟩)
end
/-! ### enumerate(list) -/
/-- the list at a as it stands at each turn, each item in a new pair -/
def Ite (K : PySem.W.Frag) (a : Addr) : It :=
  ⟨fun i H => ∃ (xs : List V) (x : V), SqL K H a xs ∧ xs[i]? = some x, fun i H v H' => ∃ T x, v = .ref T ∧ H T = none ∧ H' = upd H T (.tup [.int (i : Nat), x]) ∧ ∀ xs, SqL K H a xs → xs[i]? = some x, fun i H => ∃ xs : List V, SqL K H a xs ∧ xs.length ≤ i⟩
theorem turn_enum {P : Program} {w : World} {K : PySem.W.Frag} {elts : List Expr} {kk : Nat} {tpos : Pos} (a e it : Addr) :
    Turn P w K (.Tuple elts kk tpos) (Ite K a) [e, it] e (fun i h => (∃ old, IsEnum h e it ((i : Nat) : Int) old) ∧ h.IsListIter it a i ∧ e ≠ it) where
  mem := by simp
  obj := fun i h st b hb => by
    obtain ⟨⟨old, he⟩, ⟨o, ho, hc, hd⟩, _⟩ := st
    have e' : b = e ∨ b = it := by simpa using hb
    rcases e' with z | z
    · rw [z]; exact ⟨_, he, fun v q => nomatch q⟩
    · rw [z]; exact ⟨o, ho, fun v q => by rw [hd] at q; cases q⟩
  keep := fun i h h' st k => let ⟨⟨old, he⟩, hi, hne⟩ := st; ⟨⟨old, k e (by simp) _ he⟩, hi.at fun o q => k it (by simp) o q, hne⟩
  item := by
    intro X hP hw hK hc i pins s σ H E I hf st hg
    subst hP hw hK
    obtain ⟨⟨old, he⟩, hit, hne⟩ := st
    obtain ⟨xs, x, hq, hx⟩ := hg
    obtain ⟨its, rv, p, hz⟩ := I.list hq
    obtain ⟨u, hu, ru⟩ := rv.get hx
    have hel : e < s.heap.objs.size := Heap.lt_size he
    have hil : it < s.heap.objs.size := by obtain ⟨_, q, _⟩ := hit; exact Heap.lt_size q
    refine wpAny_pyNext_enum_item he hit p.isList (x := u) (by simpa using hu) hne fun h' ho hit' hT hsz hk => ?_
    refine ⟨_, rfl, wpAny_letOwnedTupleGo_enum (s := { s with heap := h', toks := s.toks + 1 }) ho fun h'' he' sb => ?_⟩
    have hT2 : h''.get? s.heap.objs.size = some { cls := .type "tuple", data := .seq #[.int i s.toks, u] } := (sb.2 _ (Nat.ne_of_gt hel)).trans hT
    have new : ObjOk X.prog X.w (upd H s.heap.objs.size (.tup [.int (i : Nat), x])) h'' s.heap.objs.size (.tup [.int (i : Nat), x]) :=
      ⟨by show 2 ≤ sizeLine; decide, [.int i s.toks, u], .cons ⟨_, rfl⟩ (.cons ru .nil), ⟨_, hT2, rfl, _, rfl⟩⟩
    have I1 : Inv X pins σ (upd H s.heap.objs.size (.tup [.int (i : Nat), x])) { s with heap := h'', toks := s.toks + 1 } :=
      I.turnedNew (ch := [e, it]) (fun b ob hb q => (sb.2 b (fun z => hb (by simp [z]))).trans (hk b ob (fun z => hb (by simp [z])) (fun z => hb (by simp [z])) q)) hf (Nat.le_refl _) new
    refine ⟨.ref s.heap.objs.size, _, I1, rfl, ⟨_, x, rfl, I.hok.fresh (Nat.le_refl _), rfl, fun ys hy => by rw [I.list_inj hy hq]; exact hx⟩, ⟨⟨u, ?_⟩, hit'.at fun o q => (sb.2 it (Ne.symm hne)).trans q, hne⟩, fun b hb => ?_⟩
    · have e1 : ((i + 1 : Nat) : Int) = (i : Int) + 1 := by omega
      rw [e1]; exact he'
    · have hb' : b < s.heap.objs.size := by
        have e' : b = e ∨ b = it := by simpa using hb
        rcases e' with z | z
        · rw [z]; exact hel
        · rw [z]; exact hil
      rw [upd_ne (Nat.ne_of_lt hb')]
      exact (hf b hb).1
  done := by
    intro X hP hw hK hc i pins s σ H E I hf st hg
    subst hP hw hK
    obtain ⟨⟨old, he⟩, hit, hne⟩ := st
    obtain ⟨xs, hq, hx⟩ := hg
    obtain ⟨its, rv, p, hz⟩ := I.list hq
    obtain ⟨f0, f1, f2, f3, f4, f5⟩ := hf it (by simp)
    have hl := rv.length
    exact wpAny_pyNext_enum_end (I.ok.hd hc) he hit p.isList (by simp; omega) fun h' eb => ⟨rfl, I.turned (t' := s.toks) (fun b o hb q => eb b o hb q) f0 f1 f3 f4 f5⟩
  self := fun A i s Q E st h => let ⟨⟨_, he⟩, _⟩ := st; wpAny_pyIter_enum he h
def iEnum (K : PySem.W.Frag) (ta : TA) : TI := fun σ H R => ta σ H fun vs H1 => ∃ a xs, vs = [.ref a] ∧ SqL K H1 a xs ∧ R (Ite K a) H1
theorem pi_enum {X : Cx} {e : Expr} {ta : TA} {p pos tpos : Pos} {elts : List Expr} {kk : Nat} (hg : Gl X "enumerate") (hm : X.mg "enumerate" = none) (ha : PA X [e] ta) (hs : starEach [e] X.env = [(false, eval e X.env)] := by rfl) :
    PI X (.Tuple elts kk tpos) (.Call (.Name "enumerate" p) [e] [] pos) (iEnum X.K ta) := by
  intro pins s σ H R I h
  refine Call_ (ld_blt I hg hm boot_enumerate (PyProof.Rows.callWith_type1 (thn (ha pos pins s σ H _ I h) fun us s1 ⟨vs, H1, I1, r1, q1⟩ => ?_) hs rfl))
  obtain ⟨a, xs, ex, hq, q⟩ := q1
  subst ex
  cases r1 with
  | cons r rr =>
    cases rr
    cases r
    obtain ⟨its, rv, p', hz⟩ := I1.list hq
    refine call_enumerate_list p'.isList fun h' he hit hsz hk => wpAny_pyIter_enum he ?_
    have I2 : Inv X pins σ H1 { s1 with heap := h' } := I1.kept (t' := s1.toks) hk
    refine ⟨s1.heap.objs.size + 1, [s1.heap.objs.size + 1, s1.heap.objs.size], _, _, H1, rfl, I2, turn_enum a (s1.heap.objs.size + 1) s1.heap.objs.size, ⟨⟨.none, he⟩, hit, Nat.succ_ne_self _⟩, fun b hb => ?_, q⟩
    have e' : b = s1.heap.objs.size + 1 ∨ b = s1.heap.objs.size := by simpa using hb
    have hle : s1.heap.objs.size ≤ b := by
      rcases e' with z | z
      · rw [z]; exact Nat.le_add_right _ _
      · rw [z]; exact Nat.le_refl _
    exact I1.fpOk hle (I1.hok.fresh hle)
/-! ### zip(list, list) -/
end L2
section 
namespace Bits
open PySem PyProof.Rows
end Bits
end 
section 
namespace TL
open PySem PySem.Builtin PySem.Builtin.Str PySem.StrLaws
/-! ### the list functions -/
/-! ### the model's split and partition are these -/
/-! ### computing spl and par -/
/-! ### digits -/
/-! ### words: x.split() -/
end TL
end 
namespace L2
open PySem PySem.Spec PyProof.Rows
section
variable {X : Cx} {pins : List (Addr × Obj)} {σ : St} {H : Hp} {s : Shared} {Q : VK}
end
section
variable {X : Cx}
/-! ### of a text alone -/
/-! ### of a text and a text -/
end
section
variable {X : Cx} {o e : Expr} {to te : TE}
end
end L2
namespace L2
open PySem PySem.Spec PyProof.Rows
section
variable {X : Cx}
end
/-! ### slices of a text -/
end L2
namespace Att
open PySem PySem.W PySem.Calls PyProof.Rows
/-! ### the script -/
/-! ### the attachment: holds_open's last premise (the goal 'hc' behind k_head) from a wpAny of the law's body -/
/-! ### rules over ANY heap (no ledger) from facts about the written part K: the library's own take a ledger (News) for what they write -/
section
variable {prog : Program} {w : World} {A : Around} {E : Value → Shared → Prop} {s : Shared} {K : Frag}
/-! the whole heap as the ledger: makes every rule that writes through a ledger a rule over any heap -/
end
end Att
namespace L2
open PySem PySem.Spec PyProof.Rows
end L2
namespace L2
open PySem PySem.Spec PyProof.Rows
end L2
/- THE LAST THEOREM (shape; LID, My.* are yours):
   My.Adr: a structure of the addresses that your layer names (classes, functions); My.Txt K t: a structure (Prop) of the equations over K;
   My.txt_mk : {K} {implicit addresses ..} (e1 : nsIn K mainGlobals "law" = some (some (.ref f))) (e2 : K.lookup f = some ⟨oc, od, .func (fnOf "law" "law" params body scope dV kV doc pm an cdv ct), sl⟩) (e3 : codeIn K cdv "law" = true) .. : ∃ t, My.Txt K t
(the tactic k_is has no namespace: write k_is) -/
/-! SHORT WORDS over the layer: a def of the text, its body, what a loop and a test want. -/
namespace L2
open PySem PySem.Spec PyProof.Rows
/-! ### the text by places -/
/-- the j-th statement of a class's body -/
def inClass (s : Stmt) (j : Nat) : Stmt := match s with
  | .ClassDef _ _ _ body _ _ _ _ _ _ _ => body.getD j (.Pass ⟨0, 0, 0, 0⟩)
  | _ => .Pass ⟨0, 0, 0, 0⟩
def defArgs (s : Stmt) : Arguments := match s with
  | .FunctionDef _ a _ _ _ _ _ _ _ _ => a
  | _ => { posonlyargs := [], args := [], vararg := none, kwonlyargs := [], kw_defaults := [], kwarg := none, defaults := [] }
def defBody (s : Stmt) : List Stmt := match s with
  | .FunctionDef _ _ b _ _ _ _ _ _ _ => b
  | _ => []
def defScope (s : Stmt) : Scope := match s with
  | .FunctionDef _ _ _ _ _ _ sc _ _ _ => sc
  | _ => { kind := .function, names := [], isGenerator := false, isCoroutine := false }
/-! ### no exception leaves a def -/
abbrev CX0 : CXT := fun _ _ _ _ _ _ => False
abbrev E0 : XK := fun _ _ _ => False
theorem pass0 {X : Cx} : Passes CX0 X E0 := fun _ _ _ _ _ _ _ h => h.elim
/-! ### a def (or method) of the text as it stands behind the top -/
structure Fun (K : PySem.W.Frag) (x qual : Str) (st : Stmt) (f : Addr) (fd : FuncData) : Prop where
  ex : ∃ (oc : Value) (od : Option Addr) (kV doc pm : Value) (an : Option Addr) (cdv ct : Value) (osl : Array (Option Value)),
    fd = PySem.W.fnOf x qual (defArgs st) (defBody st) (defScope st) .none kV doc pm an cdv ct ∧ K.lookup f = some ⟨oc, od, .func fd, osl⟩ ∧ PySem.W.codeIn K cdv qual = true
  kp : PySem.W.keepIn K (.ref f) = true
section
variable {P : Program} {w : World} {K : PySem.W.Frag} {mg : Str → Option Value} {base : Heap}
/-- THE RULE for a def: its body as a term of rules, and the reading of that term -/
theorem Fun.ok {x qual : Str} {st : Stmt} {f : Addr} {fd : FuncData} {N ps : List Str} {k : Nat} {sp : Sp} (F : Fun K x qual st f fd) (S : FnScope N ps (defScope st)) (len : ∀ vs H Q E, sp vs H Q E → vs.length = ps.length)
    (hbody : ∀ (cdv : Value) (A : Around) (outer : List Env) (s : Shared) (H : Hp) (vs : List V) (Q : VK) (E : XK), Room k (A.deeper (envOfC qual (defScope st) s.heap.objs.size f cdv)) → sp vs H Q E →
      ∃ t, PSs (cxOf CX0 P w K mg base N qual (defScope st) f cdv A outer s H E).nox (defBody st) t ∧ t { nx := fun _ H' => Q .non H', rt := Q } (start N vs) H) : FnOk P w K mg base CX0 (k + 1) f fd ps sp := by
  obtain ⟨oc, od, kV, doc, pm, an, cdv, ct, osl, rfl, lk, hcd⟩ := F.ex
  refine fn_of lk hcd S len fun A outer s H vs Q E hr hsp => ?_
  obtain ⟨t, h, q⟩ := hbody cdv A outer s H vs Q E hr hsp
  exact ⟨t, h.nox, q⟩
/-- how its arguments bind (no defaults): h is «fun _ _ _ _ _ _ us hl => match us, hl with | [_, _], _ => rfl», one _ a parameter -/
theorem Fun.binds {x qual : Str} {st : Stmt} {f : Addr} {fd : FuncData} {ps : List Str} (F : Fun K x qual st f fd)
    (h : ∀ (kV doc pm : Value) (an : Option Addr) (cdv ct : Value) (us : List Value), us.length = ps.length → bindArgs (PySem.W.fnOf x qual (defArgs st) (defBody st) (defScope st) .none kV doc pm an cdv ct) ⟨us, []⟩ = pure (ps.zip us)) : Binds K fd ps [] := by
  obtain ⟨oc, od, kV, doc, pm, an, cdv, ct, osl, rfl, lk, hcd⟩ := F.ex
  exact .all (h kV doc pm an cdv ct)
theorem fun_mk {x qual : Str} {st : Stmt} {f : Addr} {oc : Value} {od an : Option Addr} {osl : Array (Option Value)} {kV doc pm cdv ct : Value} (l : K.lookup f = some ⟨oc, od, .func (PySem.W.fnOf x qual (defArgs st) (defBody st) (defScope st) .none kV doc pm an cdv ct), osl⟩)
    (c : PySem.W.codeIn K cdv qual = true) (k : PySem.W.keepIn K (.ref f) = true) : Fun K x qual st f (PySem.W.fnOf x qual (defArgs st) (defBody st) (defScope st) .none kV doc pm an cdv ct) := ⟨⟨oc, od, kV, doc, pm, an, cdv, ct, osl, rfl, l, c⟩, k⟩
end
theorem hu_of {A : Around} {k : Nat} (hr : Room k A) : A.units + 1 < cLine := Nat.lt_of_le_of_lt (Nat.add_le_add_left (by decide : 1 ≤ 64) _) hr.units
/-! ### expressions in short: the name that stands in the i-th slot -/
section
variable {X : Cx}
theorem pv (i : Nat) {x : Str} {pos : Pos} (hN : X.N[i]? = some x := by rfl) (hv : Vis X.env.scope x := by first | exact Or.inl rfl | exact Or.inr (Or.inl rfl) | exact Or.inr (Or.inr rfl)) (hd : (x == ("__debug__" : Str)) = false := by decide)
    (hcd : (x == ("__classdict__" : Str)) = false := by decide) : PE X (.Name x pos) (tVar i) := pe_var hN hv hd hcd
/-- len of a dict -/
theorem call_lenD : CallR X (.builtin "len") (fun xs H Q => ∃ a kvs, xs = [V.ref a] ∧ H a = some (.dK kvs) ∧ Q (.int kvs.length) H) := by
  intro pins s σ H xs us Q I r h
  obtain ⟨a, kvs, rfl, ha, q⟩ := h
  obtain ⟨u, rfl, ru⟩ := vals1 r
  cases ru
  exact d_len I (.inl ha) fun t s' I' => ⟨.int kvs.length, H, I', ⟨t, rfl⟩, q⟩
end
/-! ### tests -/
theorem iteF {A B : Prop} (h : B) : if false = true then A else B := by
  rw [if_neg Bool.false_ne_true]
  exact h
theorem iteT {A B : Prop} (h : A) : if true = true then A else B := by
  rw [if_pos rfl]
  exact h
theorem ite2 {c A B : Prop} [Decidable c] (h1 : c → A) (h2 : ¬ c → B) : if c then A else B := by
  by_cases h : c
  · rw [if_pos h]
    exact h1 h
  · rw [if_neg h]
    exact h2 h
/-! ### heaps -/
/-- all that was tracked is as it was -/
def Same (H H' : Hp) : Prop := ∀ b o, H b = some o → H' b = some o
theorem Same.refl (H : Hp) : Same H H := fun _ _ h => h
theorem Same.trans {H H1 H2 : Hp} (a : Same H H1) (b : Same H1 H2) : Same H H2 := fun c o h => b c o (a c o h)
theorem Same.free {H H' : Hp} (e : Same H H') {l : Addr} (h : H' l = Option.none) : H l = Option.none := by
  cases q : H l with
  | none => rfl
  | some o =>
    rw [e l o q] at h
    cases h
theorem Same.seq {K : PySem.W.Frag} {H H' : Hp} {a : Addr} {xs : List V} (e : Same H H') (h : SqL K H a xs) : SqL K H' a xs := by
  rcases h with (h | ⟨o, h⟩) | h
  · exact .inl (.inl (e _ _ h))
  · exact .inl (.inr ⟨o, e _ _ h⟩)
  · exact .inr h
/-! ### a dict's pairs: keys that differ -/
section
variable {κ : Type} [DecidableEq κ]
end
/-! ### lists -/
end L2
section
set_option Elab.async false
set_option linter.all false
set_option maxRecDepth 100000
set_option maxHeartbeats 2000000
namespace L2
open PySem PySem.Spec PyProof.Rows
open PySem.W (WData Codec OpenSpec Well WellAll ReadsW ReadsAllW)
/-! ### an answer as data -/
mutual
/-- x stands for the datum d, lists and tuples all the way -/
inductive Dw (K : PySem.W.Frag) (H : Hp) : V → WData → Prop
  | non : Dw K H .non .none
  | bl (b : Bool) : Dw K H (.bl b) (.bool b)
  | int (i : Int) : Dw K H (.int i) (.int i)
  | str (x : Str) : Dw K H (.str x) (.str x)
  | byt (b : Array UInt8) : Dw K H (.byt b) (.bytes b.toList)
  | lst {a : Addr} {xs : List V} {ds : List WData} : SqL K H a xs → DwAll K H xs ds → Dw K H (.ref a) (.list ds)
  | tup {a : Addr} {xs : List V} {ds : List WData} : SqT K H a xs → DwAll K H xs ds → Dw K H (.ref a) (.tuple ds)
inductive DwAll (K : PySem.W.Frag) (H : Hp) : List V → List WData → Prop
  | nil : DwAll K H [] []
  | cons {v : V} {vs : List V} {d : WData} {ds : List WData} : Dw K H v d → DwAll K H vs ds → DwAll K H (v :: vs) (d :: ds)
end
theorem dw_ints {K : PySem.W.Frag} {H : Hp} : ∀ ns : List Int, DwAll K H (ns.map V.int) (ns.map WData.int)
  | [] => .nil
  | n :: r => .cons (.int n) (dw_ints r)
theorem ints_dw {K : PySem.W.Frag} {H : Hp} : ∀ (ns : List Int) (xs : List V), DwAll K H xs (ns.map WData.int) → xs = ns.map V.int
  | [], xs, h => by
    cases h
    rfl
  | n :: r, xs, h => by
    cases h with
    | cons h1 h2 =>
      cases h1
      rw [ints_dw r _ h2] <;> rfl
section
variable {P : Program} {w : World} {K : PySem.W.Frag} {H : Hp} {h : Heap} {R : PySem.W.WRecords} {cl : Str → Option Addr}
theorem sqL_at {a : Addr} {xs : List V} (hok : HOk P w H h) (KX : K.In h) (q : SqL K H a xs) : ∃ (its : List Value) (o : Obj) (n : Nat), Vals xs its ∧ h.get? a = some o ∧ o.cls = .type "list" ∧ o.data = .seq its.toArray n := by
  rcases q with q | ⟨o, its, n, e, hc, _, hd, _, hv⟩
  · obtain ⟨_, its, n, hv, e⟩ := (show ObjOk P w H h a (.lst xs) from q.ok hok)
    exact ⟨its, _, n, hv, e, rfl, rfl⟩
  · exact ⟨its.toList, o, n, hv, KX _ _ e, hc, by simp [hd]⟩
theorem sqT_at {a : Addr} {xs : List V} (hok : HOk P w H h) (KX : K.In h) (q : SqT K H a xs) : ∃ (its : List Value) (o : Obj) (n : Nat), Vals xs its ∧ h.get? a = some o ∧ o.cls = .type "tuple" ∧ o.data = .seq its.toArray n := by
  rcases q with q | ⟨o, its, n, e, hc, hd, _, hv⟩
  · obtain ⟨_, its, hv, o, e, hc, n, hd⟩ := (show ObjOk P w H h a (.tup xs) from q.ok hok)
    exact ⟨its, o, n, hv, e, hc, hd⟩
  · exact ⟨its.toList, o, n, hv, KX _ _ e, hc, by simp [hd]⟩
mutual
theorem Dw.reads (hok : HOk P w H h) (KX : K.In h) : ∀ (d : WData) (v : V) (u : Value), Dw K H v d → RelV v u → ∃ as, ReadsW R cl h u d as
  | .none, _, _, x, r => by
    cases x
    cases r
    exact ⟨_, ReadsW.none⟩
  | .bool b, _, _, x, r => by
    cases x
    cases r
    exact ⟨_, ReadsW.bool b⟩
  | .int i, _, _, x, r => by
    cases x
    obtain ⟨t, rfl⟩ := r
    exact ⟨_, ReadsW.int i t⟩
  | .str s, _, _, x, r => by
    cases x
    obtain ⟨t, rfl⟩ := r
    exact ⟨_, ReadsW.str s t⟩
  | .bytes b, _, _, x, r => by
    cases x
    obtain ⟨t, rfl⟩ := r
    exact ⟨_, ReadsW.bytes _ t⟩
  | .list ds, _, _, x, r => by
    cases x with
    | lst hs ha =>
      cases r
      obtain ⟨its, o, n, rv, ho, hc, hd⟩ := sqL_at hok KX hs
      obtain ⟨as, hr⟩ := Dw.readsAll hok KX ds _ its ha rv
      exact ⟨_, ReadsW.list ho hc hd hr⟩
  | .tuple ds, _, _, x, r => by
    cases x with
    | tup hs ha =>
      cases r
      obtain ⟨its, o, n, rv, ho, hc, hd⟩ := sqT_at hok KX hs
      obtain ⟨as, hr⟩ := Dw.readsAll hok KX ds _ its ha rv
      exact ⟨_, ReadsW.tuple ho hc hd hr⟩
  | .float _, _, _, x, _ => by cases x
  | .dict _, _, _, x, _ => by cases x
  | .bytearray _, _, _, x, _ => by cases x
  | .set _, _, _, x, _ => by cases x
  | .frozenset _, _, _, x, _ => by cases x
  | .obj _ _, _, _, x, _ => by cases x
theorem Dw.readsAll (hok : HOk P w H h) (KX : K.In h) : ∀ (ds : List WData) (vs : List V) (us : List Value), DwAll K H vs ds → Vals vs us → ∃ as, ReadsAllW R cl h us ds as
  | [], _, _, x, r => by
    cases x
    cases r
    exact ⟨_, ReadsAllW.nil⟩
  | d :: ds, _, _, x, r => by
    cases x with
    | cons h1 h2 =>
      cases r with
      | cons r1 r2 =>
        obtain ⟨as, q1⟩ := Dw.reads hok KX d _ _ h1 r1
        obtain ⟨bs, q2⟩ := Dw.readsAll hok KX ds _ _ h2 r2
        exact ⟨_, ReadsAllW.cons q1 q2⟩
end
end
/-! ### the arguments -/
mutual
/-- data that a codec tells -/
def plW : WData → Bool
  | .none => true
  | .bool _ => true
  | .int _ => true
  | .str _ => true
  | .bytes _ => true
  | .list xs => plWs xs
  | .tuple xs => plWs xs
  | _ => false
def plWs : List WData → Bool
  | [] => true
  | x :: r => plW x && plWs r
end
theorem plWs_map {α : Type} {f : α → WData} (h : ∀ a, plW (f a) = true) : ∀ l : List α, plWs (l.map f) = true
  | [] => rfl
  | x :: r => by
    show (plW (f x) && plWs (r.map f)) = true
    rw [h x, plWs_map h r] <;> rfl
theorem pl_enc : ∀ (c : Codec) (a : c.denote), plW (c.enc a) = true
  | .unit, _ => rfl
  | .bool, _ => rfl
  | .int _ _, _ => rfl
  | .nat _ _, _ => rfl
  | .u8, _ => rfl
  | .bytes _ _, _ => rfl
  | .text _ _ _ _, _ => rfl
  | .list _ _ c, a => plWs_map (fun x => pl_enc c x) a
  | .pair c d, a => by
    show (plW (c.enc a.1) && (plW (d.enc a.2) && true)) = true
    rw [pl_enc c a.1, pl_enc d a.2] <;> rfl
  | .triple c d e, a => by
    show (plW (c.enc a.1) && (plW (d.enc a.2.1) && (plW (e.enc a.2.2) && true))) = true
    rw [pl_enc c a.1, pl_enc d a.2.1, pl_enc e a.2.2] <;> rfl
  | .option c, none => rfl
  | .option c, some x => pl_enc c x
theorem pl_encAll : ∀ (cs : List Codec) (a : Codec.denoteAll cs), plWs (Codec.encAll cs a) = true
  | [], _ => rfl
  | c :: cs, a => by
    show (plW (c.enc a.1) && plWs (Codec.encAll cs a.2)) = true
    rw [pl_enc c a.1, pl_encAll cs a.2] <;> rfl
theorem weight_mem : ∀ {xs : List WData} {d : WData}, d ∈ xs → d.weight ≤ WData.weightAll xs
  | [], d, h => absurd h (by simp)
  | x :: r, d, h => by
    show d.weight ≤ x.weight + 1 + WData.weightAll r
    rcases List.mem_cons.mp h with e | m
    · rw [e]
      omega
    · have z := weight_mem m
      omega
def toV : Value → V
  | .none => .non
  | .bool b => .bl b
  | .int i _ => .int i
  | .str x _ => .str x
  | .bytes b _ => .byt b
  | .ref a => .ref a
  | _ => .non
/-- a value of the arguments, its objects among A -/
def OkU (A : List Addr) : Value → Prop
  | .none => True
  | .bool _ => True
  | .int _ _ => True
  | .str _ _ => True
  | .bytes _ _ => True
  | .ref a => a ∈ A
  | _ => False
theorem OkU.mono {A B : List Addr} (h : ∀ a ∈ A, a ∈ B) : ∀ {u : Value}, OkU A u → OkU B u := fun {u} x => by
  cases u with
  | ref a => exact h a x
  | none => trivial
  | bool b => trivial
  | int i t => trivial
  | str s t => trivial
  | bytes b t => trivial
  | _ => exact False.elim x
theorem relV_toV {A : List Addr} {u : Value} (x : OkU A u) : RelV (toV u) u := by
  cases u with
  | ref a => rfl
  | none => rfl
  | bool b => rfl
  | int i t => exact ⟨t, rfl⟩
  | str s t => exact ⟨t, rfl⟩
  | bytes b t => exact ⟨t, rfl⟩
  | _ => exact False.elim x
theorem vals_toV {A : List Addr} : ∀ {vs : List Value}, (∀ u ∈ vs, OkU A u) → Vals (vs.map toV) vs
  | [], _ => .nil
  | u :: r, h => .cons (relV_toV (h u (List.mem_cons_self ..))) (vals_toV fun x hx => h x (List.mem_cons_of_mem _ hx))
/-- an object of the arguments -/
def ArgOb (h : Heap) (A : List Addr) (a : Addr) : Prop := ∃ vs : List Value, vs.length ≤ sizeLine ∧ (∀ u ∈ vs, OkU A u) ∧
  (h.get? a = some { cls := .type "list", data := .seq vs.toArray } ∨ h.get? a = some { cls := .type "tuple", data := .seq vs.toArray })
theorem ArgOb.mono {h : Heap} {A B : List Addr} {a : Addr} (k : ∀ a ∈ A, a ∈ B) (x : ArgOb h A a) : ArgOb h B a := by
  obtain ⟨vs, h1, h2, h3⟩ := x
  exact ⟨vs, h1, fun u hu => (h2 u hu).mono k, h3⟩
theorem wellAll_len {P : Params} {h : Heap} : ∀ {vs : List Value} {ds : List WData}, WellAll P h vs ds → vs.length = ds.length
  | _, _, .nil => rfl
  | _, _, .cons _ b => by
    show _ + 1 = _ + 1
    rw [wellAll_len b]
theorem well_list {P : Params} {h : Heap} {v : Value} {ds : List WData} (x : Well P h v (.list ds)) : ∃ (a : Addr) (vs : List Value), v = .ref a ∧ h.get? a = some { cls := .type "list", data := .seq vs.toArray } ∧ WellAll P h vs ds := by
  cases x with
  | list ho hall => exact ⟨_, _, rfl, ho, hall⟩
theorem well_tuple {P : Params} {h : Heap} {v : Value} {ds : List WData} (x : Well P h v (.tuple ds)) : ∃ (a : Addr) (vs : List Value), v = .ref a ∧ h.get? a = some { cls := .type "tuple", data := .seq vs.toArray } ∧ WellAll P h vs ds := by
  cases x with
  | tuple ho hall => exact ⟨_, _, rfl, ho, hall⟩
theorem well_cons {P : Params} {h : Heap} {us : List Value} {d : WData} {ds : List WData} (x : WellAll P h us (d :: ds)) : ∃ (v : Value) (vs : List Value), us = v :: vs ∧ Well P h v d ∧ WellAll P h vs ds := by
  cases x with
  | cons a b => exact ⟨_, _, rfl, a, b⟩
theorem line_of {n : Nat} (h : n ≤ 1048576) : n ≤ sizeLine := Nat.le_trans h (by decide)
section
variable {P : Params} {h : Heap}
mutual
theorem area_one : ∀ (d : WData) (v : Value), Well P h v d → plW d = true → d.weight ≤ 1048576 → ∃ A : List Addr, OkU A v ∧ ∀ a ∈ A, ArgOb h A a
  | .none, _, x, _, _ => by
    cases x
    exact ⟨[], trivial, fun a m => absurd m (by simp)⟩
  | .bool b, _, x, _, _ => by
    cases x
    exact ⟨[], trivial, fun a m => absurd m (by simp)⟩
  | .int i, _, x, _, _ => by
    cases x
    exact ⟨[], trivial, fun a m => absurd m (by simp)⟩
  | .str s, _, x, _, _ => by
    cases x
    exact ⟨[], trivial, fun a m => absurd m (by simp)⟩
  | .bytes b, _, x, _, _ => by
    cases x
    exact ⟨[], trivial, fun a m => absurd m (by simp)⟩
  | .list ds, _, x, p, z => by
    obtain ⟨a, vs, rfl, ho, hall⟩ := well_list x
    have z2 : WData.weightAll ds ≤ 1048576 := z
    obtain ⟨A, h1, h2⟩ := area_all ds _ hall p fun d hd => Nat.le_trans (weight_mem hd) z2
    have k : ∀ b ∈ A, b ∈ a :: A := fun b hb => List.mem_cons_of_mem _ hb
    refine ⟨a :: A, List.mem_cons_self .., fun b hb => ?_⟩
    rcases List.mem_cons.mp hb with e | m
    · rw [e]
      exact ⟨vs, line_of (by rw [wellAll_len hall]; exact Nat.le_trans (PySem.W.length_le_weightAllW ds) z2), fun u hu => (h1 u hu).mono k, .inl ho⟩
    · exact (h2 b m).mono k
  | .tuple ds, _, x, p, z => by
    obtain ⟨a, vs, rfl, ho, hall⟩ := well_tuple x
    have z2 : WData.weightAll ds ≤ 1048576 := z
    obtain ⟨A, h1, h2⟩ := area_all ds _ hall p fun d hd => Nat.le_trans (weight_mem hd) z2
    have k : ∀ b ∈ A, b ∈ a :: A := fun b hb => List.mem_cons_of_mem _ hb
    refine ⟨a :: A, List.mem_cons_self .., fun b hb => ?_⟩
    rcases List.mem_cons.mp hb with e | m
    · rw [e]
      exact ⟨vs, line_of (by rw [wellAll_len hall]; exact Nat.le_trans (PySem.W.length_le_weightAllW ds) z2), fun u hu => (h1 u hu).mono k, .inr ho⟩
    · exact (h2 b m).mono k
  | .float _, _, _, p, _ => Bool.noConfusion (show false = true from p)
  | .dict _, _, _, p, _ => Bool.noConfusion (show false = true from p)
  | .bytearray _, _, _, p, _ => Bool.noConfusion (show false = true from p)
  | .set _, _, _, p, _ => Bool.noConfusion (show false = true from p)
  | .frozenset _, _, _, p, _ => Bool.noConfusion (show false = true from p)
  | .obj _ _, _, _, p, _ => Bool.noConfusion (show false = true from p)
theorem area_all : ∀ (ds : List WData) (vs : List Value), WellAll P h vs ds → plWs ds = true → (∀ d ∈ ds, d.weight ≤ 1048576) → ∃ A : List Addr, (∀ u ∈ vs, OkU A u) ∧ ∀ a ∈ A, ArgOb h A a
  | [], _, x, _, _ => by
    cases x
    exact ⟨[], fun u m => absurd m (by simp), fun a m => absurd m (by simp)⟩
  | d :: ds, _, x, p, z => by
    obtain ⟨v, vs, rfl, x1, x2⟩ := well_cons x
    have q : plW d = true ∧ plWs ds = true := Bool.and_eq_true_iff.mp p
    obtain ⟨A, a1, a2⟩ := area_one d v x1 q.1 (z d (List.mem_cons_self ..))
    obtain ⟨B, b1, b2⟩ := area_all ds vs x2 q.2 fun e he => z e (List.mem_cons_of_mem _ he)
    have kA : ∀ b ∈ A, b ∈ A ++ B := fun b hb => List.mem_append.mpr (.inl hb)
    have kB : ∀ b ∈ B, b ∈ A ++ B := fun b hb => List.mem_append.mpr (.inr hb)
    refine ⟨A ++ B, fun u hu => ?_, fun b hb => ?_⟩
    · rcases List.mem_cons.mp hu with e | m
      · rw [e]
        exact a1.mono kA
      · exact (b1 u m).mono kB
    · rcases List.mem_append.mp hb with m | m
      · exact (a2 b m).mono kA
      · exact (b2 b m).mono kB
end
end
/-- what is tracked of an argument's object -/
def hoOf (o : Obj) : Option HO := match o.data with
  | .seq vs _ => if (o.cls == Value.type "list") = true then some (.frz o (.lst (vs.toList.map toV))) else some (.frz o (.tup (vs.toList.map toV)))
  | _ => none
def argH (K : PySem.W.Frag) (h : Heap) (A : List Addr) : Hp := fun b => if b ∈ A then (if (K.lookup b).isNone = true then (h.get? b).bind hoOf else none) else none
/-- nothing is tracked but what is known to the object -/
def OnlyF (H : Hp) : Prop := ∀ b, H b = none ∨ ∃ o u, H b = some (.frz o u)
theorem hoOf_lst (vs : List Value) : hoOf { cls := .type "list", data := .seq vs.toArray } = some (.frz { cls := .type "list", data := .seq vs.toArray } (.lst (vs.map toV))) := by
  show (if (Value.type "list" == Value.type "list") = true then some (HO.frz { cls := .type "list", data := .seq vs.toArray } (.lst (vs.toArray.toList.map toV))) else some (HO.frz { cls := .type "list", data := .seq vs.toArray } (.tup (vs.toArray.toList.map toV)))) = _
  rw [if_pos (beq_self_eq_true _)]
theorem hoOf_tup (vs : List Value) : hoOf { cls := .type "tuple", data := .seq vs.toArray } = some (.frz { cls := .type "tuple", data := .seq vs.toArray } (.tup (vs.map toV))) := by
  show (if (Value.type "tuple" == Value.type "list") = true then some (HO.frz { cls := .type "tuple", data := .seq vs.toArray } (.lst (vs.toArray.toList.map toV))) else some (HO.frz { cls := .type "tuple", data := .seq vs.toArray } (.tup (vs.toArray.toList.map toV)))) = _
  rw [if_neg (by decide)]
section
variable {P : Program} {w : World} {K : PySem.W.Frag} {h : Heap} {A : List Addr}
theorem argH_at {b : Addr} {o : Obj} (hb : b ∈ A) (hk : K.lookup b = none) (e : h.get? b = some o) : argH K h A b = hoOf o := by
  unfold argH
  rw [if_pos hb, hk, if_pos (show (none : Option Obj).isNone = true from rfl), e] <;> rfl
theorem of_argH {b : Addr} {u : HO} (q : argH K h A b = some u) : b ∈ A ∧ K.lookup b = none := by
  unfold argH at q
  by_cases hb : b ∈ A
  · rw [if_pos hb] at q
    cases hk : K.lookup b with
    | none => exact ⟨hb, rfl⟩
    | some o =>
      rw [hk, if_neg (by simp)] at q
      cases q
  · rw [if_neg hb] at q
    cases q
/-- what stands tracked -/
theorem argH_is (ar : ∀ a ∈ A, ArgOb h A a) {b : Addr} {u : HO} (q : argH K h A b = some u) : K.lookup b = none ∧ ∃ vs : List Value, vs.length ≤ sizeLine ∧ (∀ u ∈ vs, OkU A u) ∧
    ((h.get? b = some { cls := .type "list", data := .seq vs.toArray } ∧ u = .frz { cls := .type "list", data := .seq vs.toArray } (.lst (vs.map toV))) ∨
     (h.get? b = some { cls := .type "tuple", data := .seq vs.toArray } ∧ u = .frz { cls := .type "tuple", data := .seq vs.toArray } (.tup (vs.map toV)))) := by
  obtain ⟨hb, hk⟩ := of_argH q
  obtain ⟨vs, h1, h2, h3⟩ := ar b hb
  refine ⟨hk, vs, h1, h2, ?_⟩
  rcases h3 with e | e
  · rw [argH_at hb hk e, hoOf_lst] at q
    exact .inl ⟨e, (Option.some.inj q).symm⟩
  · rw [argH_at hb hk e, hoOf_tup] at q
    exact .inr ⟨e, (Option.some.inj q).symm⟩
theorem argH_only (ar : ∀ a ∈ A, ArgOb h A a) : OnlyF (argH K h A) := fun b => by
  cases q : argH K h A b with
  | none => exact .inl rfl
  | some u =>
    obtain ⟨_, vs, _, _, ⟨_, e⟩ | ⟨_, e⟩⟩ := argH_is ar q
    · exact .inr ⟨_, _, by rw [e]⟩
    · exact .inr ⟨_, _, by rw [e]⟩
theorem argH_ok (ar : ∀ a ∈ A, ArgOb h A a) : HOk P w (argH K h A) h := fun b u q => by
  obtain ⟨_, vs, h1, h2, ⟨e, rfl⟩ | ⟨e, rfl⟩⟩ := argH_is ar q
  · exact ⟨e, by rw [List.length_map]; exact h1, vs, _, vals_toV h2, e⟩
  · exact ⟨e, by rw [List.length_map]; exact h1, vs, vals_toV h2, _, e, rfl, _, rfl⟩
theorem seq_inj {c c' : Value} {vs us : List Value} (e : (some { cls := c, data := .seq vs.toArray } : Option Obj) = some { cls := c', data := .seq us.toArray }) : c = c' ∧ vs = us := by
  have e1 := Option.some.inj e
  have e2 : c = c' := congrArg Obj.cls e1
  have e3 : Data.seq vs.toArray = Data.seq us.toArray := congrArg Obj.data e1
  injection e3 with e4
  refine ⟨e2, ?_⟩
  have e5 := congrArg Array.toList e4
  simpa using e5
/-- a list argument -/
theorem argL (KX : K.In h) (ar : ∀ a ∈ A, ArgOb h A a) {a : Addr} {vs : List Value} (ha : a ∈ A) (e : h.get? a = some { cls := .type "list", data := .seq vs.toArray }) : (∀ u ∈ vs, OkU A u) ∧ SqL K (argH K h A) a (vs.map toV) := by
  obtain ⟨us, h1, h2, h3⟩ := ar a ha
  have hu : us = vs := by
    rcases h3 with q | q
    · rw [e] at q
      exact (seq_inj q).2.symm
    · rw [e] at q
      exact absurd (Value.type.inj (seq_inj q).1) (by decide)
  subst hu
  refine ⟨h2, ?_⟩
  cases hk : K.lookup a with
  | none => exact .inl (.inr ⟨_, by rw [argH_at ha hk e, hoOf_lst]⟩)
  | some o =>
    have e2 := KX a o hk
    rw [e] at e2
    obtain rfl := Option.some.inj e2
    exact .inr ⟨_, us.toArray, _, hk, rfl, rfl, rfl, by rw [List.size_toArray]; exact h1, by simpa using vals_toV h2⟩
theorem argT (KX : K.In h) (ar : ∀ a ∈ A, ArgOb h A a) {a : Addr} {vs : List Value} (ha : a ∈ A) (e : h.get? a = some { cls := .type "tuple", data := .seq vs.toArray }) : (∀ u ∈ vs, OkU A u) ∧ SqT K (argH K h A) a (vs.map toV) := by
  obtain ⟨us, h1, h2, h3⟩ := ar a ha
  have hu : us = vs := by
    rcases h3 with q | q
    · rw [e] at q
      exact absurd (Value.type.inj (seq_inj q).1) (by decide)
    · rw [e] at q
      exact (seq_inj q).2.symm
  subst hu
  refine ⟨h2, ?_⟩
  cases hk : K.lookup a with
  | none => exact .inl (.inr ⟨_, by rw [argH_at ha hk e, hoOf_tup]⟩)
  | some o =>
    have e2 := KX a o hk
    rw [e] at e2
    obtain rfl := Option.some.inj e2
    exact .inr ⟨_, us.toArray, _, hk, rfl, rfl, by rw [List.size_toArray]; exact h1, by simpa using vals_toV h2⟩
mutual
theorem dw_one {Pm : Params} (KX : K.In h) (ar : ∀ a ∈ A, ArgOb h A a) : ∀ (d : WData) (v : Value), Well Pm h v d → plW d = true → OkU A v → Dw K (argH K h A) (toV v) d
  | .none, _, x, _, _ => by
    cases x
    exact .non
  | .bool b, _, x, _, _ => by
    cases x
    exact .bl b
  | .int i, _, x, _, _ => by
    cases x
    exact .int i
  | .str s, _, x, _, _ => by
    cases x
    exact .str s
  | .bytes b, _, x, _, _ => by
    cases x
    have z := Dw.byt (K := K) (H := argH K h A) b.toArray
    exact z
  | .list ds, _, x, p, hu => by
    obtain ⟨a, vs, rfl, ho, hall⟩ := well_list x
    obtain ⟨h2, hs⟩ := argL KX ar hu ho
    exact .lst hs (dw_all KX ar ds _ hall p h2)
  | .tuple ds, _, x, p, hu => by
    obtain ⟨a, vs, rfl, ho, hall⟩ := well_tuple x
    obtain ⟨h2, hs⟩ := argT KX ar hu ho
    exact .tup hs (dw_all KX ar ds _ hall p h2)
  | .float _, _, _, p, _ => Bool.noConfusion (show false = true from p)
  | .dict _, _, _, p, _ => Bool.noConfusion (show false = true from p)
  | .bytearray _, _, _, p, _ => Bool.noConfusion (show false = true from p)
  | .set _, _, _, p, _ => Bool.noConfusion (show false = true from p)
  | .frozenset _, _, _, p, _ => Bool.noConfusion (show false = true from p)
  | .obj _ _, _, _, p, _ => Bool.noConfusion (show false = true from p)
theorem dw_all {Pm : Params} (KX : K.In h) (ar : ∀ a ∈ A, ArgOb h A a) : ∀ (ds : List WData) (vs : List Value), WellAll Pm h vs ds → plWs ds = true → (∀ u ∈ vs, OkU A u) → DwAll K (argH K h A) (vs.map toV) ds
  | [], _, x, _, _ => by
    cases x
    exact .nil
  | d :: ds, _, x, p, hu => by
    obtain ⟨v, vs, rfl, x1, x2⟩ := well_cons x
    have q : plW d = true ∧ plWs ds = true := Bool.and_eq_true_iff.mp p
    exact .cons (dw_one KX ar d v x1 q.1 (hu _ (List.mem_cons_self ..))) (dw_all KX ar ds vs x2 q.2 fun u m => hu u (List.mem_cons_of_mem _ m))
end
end
/-! ### the call -/
theorem spec_call {P : Program} {w : World} {K : PySem.W.Frag} {mg mb : Str → Option Value} {CX : CXT} {k : Nat} {fa : Addr} {fd : FuncData} {ps : List Str} {sp : Sp} {s₁ : Shared} {vals : List Value} {ds : List WData} {R : PySem.W.WRecords} {cl : Str → Option Addr} {d0 : WData}
    (KX : K.In s₁.heap) (hns : s₁.heap.Ns mainGlobals mg) (hb : s₁.heap.Ns builtinsNs mb) (hbb : ∀ x : Str, x ≠ "__name__" → mb x = bootBuiltins x) (hlim : s₁.heap.NoLimit) (hg : s₁.gens = #[])
    (hwl : WellAll w.params s₁.heap vals ds) (hpl : plWs ds = true) (hwt : ∀ d ∈ ds, d.weight ≤ 1048576) (hr : Room k callerA)
    (F : ∀ base : Heap, K.In base → base.Ns mainGlobals mg → FnOk P w K mg base CX k fa fd ps sp) (hbind : ∀ (s : Shared) (us : List Value), us.length = ps.length → BindsTo s fd ⟨us, []⟩ (ps.zip us)) (hlen : ds.length = ps.length)
    (hsp : ∀ (H : Hp) (xs : List V), OnlyF H → DwAll K H xs ds → sp xs H (fun v H' => Dw K H' v d0) fun _ _ _ => False)
    (hCX : ∀ H e s', CX [] H s₁ (fun _ _ _ => False) e s' → False) :
    codeAny (model P w) callerA (.call (.ref fa) ⟨vals, []⟩) (fun r s' => ∃ u as, r = .ok (.ret u) ∧ ReadsW R cl s'.heap u d0 as ∧ OldK s₁.heap s'.heap ∧ s'.os = s₁.os ∧ AllBare s'.gens) s₁ := by
  obtain ⟨A, ho, ar⟩ := area_all ds vals hwl hpl hwt
  have hO : OnlyF (argH K s₁.heap A) := argH_only ar
  have hok : HOk P w (argH K s₁.heap A) s₁.heap := argH_ok ar
  have hS := dw_all KX ar ds vals hwl hpl ho
  have hV := vals_toV ho
  have hK : ∀ b u, argH K s₁.heap A b = some u → K.lookup b = none := fun b u q => (argH_is ar q).1
  have noA : ∀ {b : Addr} {o : Obj} {es : Array DictEntry} {ep : Nat}, s₁.heap.get? b = some o → o.data = .dict es ep → argH K s₁.heap A b = none := fun {b o es ep} e d => by
    cases q : argH K s₁.heap A b with
    | none => rfl
    | some u =>
      obtain ⟨_, vs, _, _, ⟨e2, _⟩ | ⟨e2, _⟩⟩ := argH_is ar q
      · rw [e2] at e
        cases e
        have d' : Data.seq vs.toArray _ = Data.dict es ep := d
        cases d'
      · rw [e2] at e
        cases e
        have d' : Data.seq vs.toArray _ = Data.dict es ep := d
        cases d'
  generalize argH K s₁.heap A = H at hO hok hS hK noA
  have base_of : ∀ {b : Addr} {o : Obj}, s₁.heap.get? b = some o → H b = none → (hidT s₁.heap H).get? b = some o := fun e n => hidT_get e n
  have nsK : ∀ {b : Addr} {m : Str → Option Value}, s₁.heap.Ns b m → (hidT s₁.heap H).Ns b m := fun {b m} ⟨o, es, ep, e, d, r⟩ => ⟨o, es, ep, base_of e (noA e d), d, r⟩
  have nK : ∀ b o, K.lookup b = some o → H b = none := fun b o e => by
    cases q : H b with
    | none => rfl
    | some u =>
      rw [hK b u q] at e
      cases e
  have hKb : K.In (hidT s₁.heap H) := fun b o e => base_of (KX b o e) (nK b o e)
  have hM : Mod K mg (hidT s₁.heap H) := ⟨hKb, nsK hns, ⟨mb, nsK hb, hbb⟩, let ⟨mc, h1, h2⟩ := hlim; ⟨mc, nsK h1, h2⟩⟩
  have e0 : Env0 P w K mg (hidT s₁.heap H) callerA [] s₁ H := ⟨rfl, hM, fun b o e => of_hidT e, Nat.le_of_eq (hidT_size _ _), trivial, fun b hb => absurd (show b ∈ ([] : List Addr) from hb) (by simp), hok, .of_eq hg⟩
  have hl : vals.length = ps.length := by rw [wellAll_len hwl]; exact hlen
  refine codeAny_mono ((F _ hKb (nsK hns)).run callerA [] s₁ H ⟨vals, []⟩ vals (vals.map toV) _ _ hr e0 (hbind s₁ vals hl) hV (hsp H _ hO hS)) fun r s' x => ?_
  cases r with
  | error e => exact (hCX H e s' x).elim
  | ok fl =>
    cases fl with
    | next => exact False.elim x
    | brk => exact False.elim x
    | cont => exact False.elim x
    | ret u =>
      obtain ⟨v, H', os, bare, un, hok', r', q⟩ := x
      have kept : ∀ b o, s₁.heap.get? b = some o → s'.heap.get? b = some o := fun b o e => by
        cases q2 : H b with
        | none => exact un.keep b o e q2 (by intro z; exact absurd (show b ∈ ([] : List Addr) from z) (by simp)) (by simp)
        | some u2 =>
          rcases hO b with z | ⟨ob, u3, z⟩
          · rw [q2] at z
            cases z
          · have z2 := un.frzs b ob _ z
            obtain ⟨e1, _⟩ := hok b _ z
            obtain ⟨e2, _⟩ := hok' b _ z2
            rw [e] at e1
            cases e1
            exact e2
      have KX' : K.In s'.heap := fun b o e => kept b o (KX b o e)
      obtain ⟨as, hrd⟩ := Dw.reads (R := R) (cl := cl) hok' KX' d0 v u q r'
      exact ⟨u, as, rfl, hrd, OldK.of_keep kept, os, bare⟩
/-! ### the row -/
theorem layable_weight {ds : List WData} (h : WData.layableAll ds = true) : ∀ d ∈ ds, d.weight ≤ 1048576 := fun d hd =>
  (PySem.W.layableW_iff.mp (List.all_eq_true.mp h d hd)).2.2
theorem encAll_len : ∀ (cs : List Codec) (a : Codec.denoteAll cs), (Codec.encAll cs a).length = cs.length
  | [], _ => rfl
  | c :: cs, a => by
    show (Codec.encAll cs a.2).length + 1 = cs.length + 1
    rw [encAll_len cs a.2]
/-- the goal that k_headS leaves (case hc), from the promise of the row's def: whatever the arguments that the codecs let and the row asks for, the def gives what stands for enc (f ..) -/
theorem walk_spec {r : OpenSpec} {k : Nat} {q : Program} {loose : List Str} {XP : (Str → Option Value) → Heap → Prop} {YP : World → Heap → Prop} {d : DefRec} {K : Params → PySem.W.Frag} {CX : World → CXT} {ps : List Str} {sp : World → Sp}
    (hwell : r.wellSaid = true) (hdf : d.params.defaults = []) (hlen : r.args.length = ps.length) (hr : Room k callerA)
    (hY : ∀ (w : World) (h : Heap), YP w h → (K w.params).In h)
    (F : ∀ (w : World) (mg : Str → Option Value) (fa : Addr) (h : Heap), YP w h → (K w.params).In h → h.Ns mainGlobals mg → mg d.name = some (.ref fa) →
      ∃ fd : FuncData, (∀ (s : Shared) (us : List Value), us.length = ps.length → BindsTo s fd ⟨us, []⟩ (ps.zip us)) ∧
        ∀ base : Heap, (K w.params).In base → base.Ns mainGlobals mg → FnOk r.prog w (K w.params) mg base (CX w) k fa fd ps (sp w))
    (hsp : ∀ (w : World) (H : Hp) (xs : List V) (a : Codec.denoteAll r.args), OnlyF H → Codec.withinAll r.args a = true → Codec.app r.args r.asked a = true → DwAll (K w.params) H xs (Codec.encAll r.args a) →
      sp w xs H (fun v H' => Dw (K w.params) H' v (r.ret.enc (Codec.app r.args r.f a))) fun _ _ _ => False)
    (hCX : ∀ (w : World) (H : Hp) (s : Shared) (e : Value) (s' : Shared), CX w [] H s (fun _ _ _ => False) e s' → False) :
    PySem.W.WalkOS q loose XP YP r d [] (fun f vs => PySem.call f vs) := by
  intro w s_0 s₁ mg mb G Y fa o pm cd doc dV kV ho hd hcd hD hmg hg args vals as hpre hlay hrd hwl hlo
  obtain ⟨a, e1, e2⟩ := PySem.W.os_pre_some hpre
  obtain ⟨e3, hwi⟩ := Codec.encAll_of_decAll r.args args a e1
  subst e3
  have KX := hY w _ Y
  obtain ⟨fd, hb, hF⟩ := F w mg fa _ Y KX G.T.g hmg
  refine PySem.W.enter_call (codeAny_mono (spec_call (R := []) (cl := classAt s_0.heap) (d0 := r.ret.enc (Codec.app r.args r.f a)) KX G.T.g G.T.b G.T.builtins G.T.nolimit hg hwl (pl_encAll _ _) (layable_weight hlay) hr hF hb (by rw [encAll_len]; exact hlen)
    (fun H xs hO hS => hsp w H xs a hO hwi e2 hS) fun H e s' => hCX w H s₁ e s') fun r' s' hq => ?_)
  obtain ⟨u, as', rfl, h1, h2, h3, h4⟩ := hq
  exact ⟨.inl ⟨u, _, as', rfl, fun _ => rfl, h1, (OpenSpec.post_iff hwell hwi _ _).mpr rfl, fun z => Bool.noConfusion (show false = true from z)⟩, h2, h3, h4⟩
/-- the same where the promise hangs on the written part alone -/
theorem walk_specK {r : OpenSpec} {k : Nat} {q : Program} {loose : List Str} {XP : (Str → Option Value) → Heap → Prop} {YP : World → Heap → Prop} {d : DefRec} {K : Params → PySem.W.Frag} {CX : CXT} {ps : List Str} {sp : PySem.W.Frag → Sp}
    (hwell : r.wellSaid = true) (hdf : d.params.defaults = []) (hlen : r.args.length = ps.length) (hr : Room k callerA)
    (hY : ∀ (w : World) (h : Heap), YP w h → (K w.params).In h)
    (F : ∀ (w : World) (mg : Str → Option Value) (fa : Addr) (h : Heap), YP w h → (K w.params).In h → h.Ns mainGlobals mg → mg d.name = some (.ref fa) →
      ∃ fd : FuncData, (∀ (s : Shared) (us : List Value), us.length = ps.length → BindsTo s fd ⟨us, []⟩ (ps.zip us)) ∧
        ∀ base : Heap, (K w.params).In base → base.Ns mainGlobals mg → FnOk r.prog w (K w.params) mg base CX k fa fd ps (sp (K w.params)))
    (hsp : ∀ (K : PySem.W.Frag) (H : Hp) (xs : List V) (a : Codec.denoteAll r.args), OnlyF H → Codec.withinAll r.args a = true → Codec.app r.args r.asked a = true → DwAll K H xs (Codec.encAll r.args a) →
      sp K xs H (fun v H' => Dw K H' v (r.ret.enc (Codec.app r.args r.f a))) fun _ _ _ => False)
    (hCX : ∀ (H : Hp) (s : Shared) (e : Value) (s' : Shared), CX [] H s (fun _ _ _ => False) e s' → False) :
    PySem.W.WalkOS q loose XP YP r d [] (fun f vs => PySem.call f vs) :=
  walk_spec (K := K) (CX := fun _ => CX) (sp := fun w => sp (K w.params)) hwell hdf hlen hr hY F (fun w H xs a h1 h2 h3 h4 => hsp (K w.params) H xs a h1 h2 h3 h4) fun _ H s e s' => hCX H s e s'
end L2
end
/-! Short words over the layer: a text's defs, classes and numbers; a few rules more. -/
set_option Elab.async false
set_option linter.all false
set_option maxRecDepth 100000
set_option maxHeartbeats 2000000
namespace Bl
open PySem PySem.Spec PyProof.Rows L2
/-- a whole number of the text's top -/
def GlI (mg : Str → Option Value) (x : Str) (v : Int) : Prop := ∃ t, mg x = some (.int v t)
/-- a def of the text's top -/
structure Dn (K : PySem.W.Frag) (mg : Str → Option Value) (x : Str) (st : Stmt) (ps : List Str) where
  f : Addr
  fd : FuncData
  F : Fun K x x st f fd
  b : Binds K fd ps []
  m : mg x = some (.ref f)
/-- a class -/
structure Cl (K : PySem.W.Frag) (mg : Str → Option Value) (x : Str) where
  C : Addr
  m : mg x = some (.ref C)
  cl : Cls K C
  mks : PySem.W.makesIn K C = true
  kp : PySem.W.keepIn K (.ref C) = true
/-- a def of a class -/
structure Md (K : PySem.W.Frag) (C : Addr) (x qual : Str) (st : Stmt) (ps : List Str) where
  f : Addr
  fd : FuncData
  F : Fun K x qual st f fd
  b : Binds K fd ps []
  at_ : PySem.W.findIn K (.ref C) x = some (some (.ref f))
  fn : PySem.W.isFn K (.ref f) = true
section
variable {X : Cx} {x : Str} {st : Stmt} {ps : List Str} {k : Nat} {sp : Sp} {e o : Expr} {es : List Expr} {p pos apos : Pos} {t : TA} {ta : TE}
theorem pe_gi {v : Int} (h : GlI X.mg x v) (hg : Gl X x) (hd : (x == ("__debug__" : Str)) = false := by decide) : PE X (.Name x pos) (tC (.int v)) := by
  obtain ⟨u, e⟩ := h
  exact pe_glob hg e ⟨u, rfl⟩ hd
theorem pe_dn (D : Dn X.K X.mg x st ps) (F : FnOk X.prog X.w X.K X.mg X.base CX0 k D.f D.fd ps sp) (hr : Room k X.A) (hg : Gl X x) (ha : PA X (e :: es) t)
    (hdb : (x == ("__debug__" : Str)) = false := by decide) (he : starEach (e :: es) X.env = (false, eval e X.env) :: starEach es X.env := by rfl) (hpl : (backTo pos (starEach es X.env)).any (·.1) = false := by rfl) :
    PE X (.Call (.Name x p) (e :: es) [] pos) (tCall sp [] E0 t) :=
  pe_call F hr hg D.m D.F.kp D.b .nil pass0 ha hdb he hpl
theorem pe_mk {C : Cl X.K X.mg x} {q : Str} (M : Md X.K C.C "__init__" q st ps) (F : FnOk X.prog X.w X.K X.mg X.base CX0 k M.f M.fd ps sp) (hr : Room (k + 1) X.A) (hg : Gl X x) (ha : PA X (e :: es) t)
    (hdb : (x == ("__debug__" : Str)) = false := by decide) (he : starEach (e :: es) X.env = (false, eval e X.env) :: starEach es X.env := by rfl) (hpl : (backTo pos (starEach es X.env)).any (·.1) = false := by rfl) :
    PE X (.Call (.Name x p) (e :: es) [] pos) (tMake C.C sp [] E0 t) :=
  pe_make ⟨C.mks, M.at_, M.fn, C.kp⟩ F hr hg C.m M.b .nil pass0 ha hdb he hpl
theorem pe_mk0 {C : Cl X.K X.mg x} {q : Str} (M : Md X.K C.C "__init__" q st ps) (F : FnOk X.prog X.w X.K X.mg X.base CX0 k M.f M.fd ps sp) (hr : Room (k + 1) X.A) (hg : Gl X x)
    (hdb : (x == ("__debug__" : Str)) = false := by decide) : PE X (.Call (.Name x p) [] [] pos) (tMake C.C sp [] E0 tNil) :=
  pe_make0 ⟨C.mks, M.at_, M.fn, C.kp⟩ F hr hg C.m M.b .nil pass0 hdb
theorem pe_md {y q m : Str} {C : Cl X.K X.mg y} {pl : Sem Bool} (ho : PE X o ta) (M : Md X.K C.C m q st ps) (F : FnOk X.prog X.w X.K X.mg X.base CX0 k M.f M.fd ps sp) (hr : Room k X.A) (ha : PA X (e :: es) t)
    (hst : starEach (e :: es) X.env = (false, eval e X.env) :: starEach es X.env := by rfl) (hpl : (backTo pos (starEach es X.env)).any (·.1) = false := by rfl)
    (ht : eval (.Call (.Attribute o m apos) (e :: es) [] pos) X.env = (do
      let ov ← eval o X.env
      standAt apos.atName
      let (f, first) ← holding [ov] (getMethod ov m pl)
      callWith pos f first (backTo pos (starEach (e :: es) X.env)) (backToKw pos (keywordEach [] X.env))) := by rfl) :
    PE X (.Call (.Attribute o m apos) (e :: es) [] pos) (tMeth C.C m sp [] E0 ta t) :=
  pe_meth ho C.cl ⟨M.at_, M.fn, M.F.kp⟩ F hr M.b .nil pass0 ha hst hpl ht
/-- a def that a local name holds -/
def tCallL (X : Cx) (i : Nat) (t : TA) : TE := fun σ H Q => ∃ (f : Addr) (fd : FuncData) (ps : List Str) (sp : Sp) (k : Nat), σ[i]? = some (some (.ref f)) ∧ FnOk X.prog X.w X.K X.mg X.base CX0 k f fd ps sp ∧ Room k X.A ∧ PySem.W.keepIn X.K (.ref f) = true ∧ Binds X.K fd ps [] ∧
  t σ H fun vs H1 => sp vs H1 Q E0
theorem pe_callL (i : Nat) {y : Str} (ha : PA X (e :: es) t) (hN : X.N[i]? = some y := by rfl) (hv : Vis X.env.scope y := by first | exact Or.inl rfl | exact Or.inr (Or.inl rfl) | exact Or.inr (Or.inr rfl)) (hd : (y == ("__debug__" : Str)) = false := by decide)
    (hcd : (y == ("__classdict__" : Str)) = false := by decide) (he : starEach (e :: es) X.env = (false, eval e X.env) :: starEach es X.env := by rfl) (hpl : (backTo pos (starEach es X.env)).any (·.1) = false := by rfl) :
    PE X (.Call (.Name y p) (e :: es) [] pos) (tCallL X i t) := by
  intro pins s σ H Q I h
  obtain ⟨f, fd, ps, sp, k, hs, F, hr, hk, hb, h⟩ := h
  refine wpAny_Call_Name_kw (thn (pe_var hN hv hd hcd pins s σ H (fun v H1 => v = .ref f ∧ H1 = H) I ⟨_, hs, rfl, rfl⟩) fun u s1 ⟨v, H1, I1, r1, ev, eh⟩ => ?_)
  subst ev eh
  obtain rfl : u = Value.ref f := r1
  refine PySem.W.callWith_K (h₀ := X.base) I1.ok.mod.kin hk (thn (ha pos pins s1 σ H1 _ I1 h) fun us s2 ⟨vs, H2, I2, r, q⟩ => ⟨I2.kIn, ?_⟩) he hpl
  exact run_fn F hr hb .nil pass0 I2 r (by rw [List.append_nil]; exact q)
end
theorem dedup_gen : ∀ (l σ : List Int), σ.Nodup → (l.foldl step_dedup σ).length ≤ σ.length + l.length ∧ ((l.foldl step_dedup σ).length = σ.length + l.length ↔ l.Nodup ∧ ∀ x ∈ l, x ∉ σ)
  | [], σ, _ => ⟨by simp, by simp⟩
  | x :: l, σ, hσ => by
    rw [List.foldl_cons]
    by_cases m : x ∈ σ
    · have e : step_dedup σ x = σ := by unfold step_dedup; rw [if_pos (by simpa using m)]
      rw [e]
      obtain ⟨a, _⟩ := dedup_gen l σ hσ
      refine ⟨by simp; omega, ?_⟩
      constructor
      · intro z; simp at z; omega
      · intro z; exact absurd m (z.2 x (by simp))
    · have e : step_dedup σ x = σ ++ [x] := by unfold step_dedup; rw [if_neg (by simpa using m)]
      rw [e]
      obtain ⟨a, b⟩ := dedup_gen l (σ ++ [x]) (List.nodup_append.mpr ⟨hσ, by simp, fun u hu v hv => by
        have : v = x := by simpa using hv
        subst this; exact fun q => m (q ▸ hu)⟩)
      simp only [List.length_append, List.length_cons, List.length_nil] at a b ⊢
      refine ⟨by omega, ?_⟩
      rw [show σ.length + (l.length + 1) = σ.length + (0 + 1) + l.length by omega, b, List.nodup_cons]
      constructor
      · rintro ⟨h1, h2⟩
        refine ⟨⟨fun z => (h2 x z) (by simp), h1⟩, fun y hy => ?_⟩
        rcases List.mem_cons.mp hy with z | z
        · rw [z]; exact m
        · exact fun w => h2 y z (by simp [w])
      · rintro ⟨⟨h0, h1⟩, h2⟩
        refine ⟨h1, fun y hy z => ?_⟩
        rcases List.mem_append.mp z with w | w
        · exact h2 y (by simp [hy]) w
        · have w : y = x := by simpa using w
          exact h0 (w ▸ hy)
theorem dedup_le (l : List Int) : (l.foldl step_dedup []).length ≤ l.length := by have := (dedup_gen l [] (by simp)).1; simpa using this
theorem dedup_eq (l : List Int) : (l.foldl step_dedup []).length = l.length ↔ l.Nodup := by have := (dedup_gen l [] (by simp)).2; simpa using this
/-! ### dicts as lists -/
section
variable {X : Cx}
theorem keyVals {kvs : List (Key × V)} {vs : List (Key × Value)} (kv : KV kvs vs) : ∀ {acc : List Value}, acc.length = vs.length → (∀ (j : Nat) (v : Value), acc[j]? = some v → ∃ (k : Key) (x : Value), vs[j]? = some (k, x) ∧ keyIs k v = true) → Vals (kvs.map fun p => kV p.1) acc := by
  unfold KV at kv
  induction kv with
  | nil =>
    intro acc hl _
    cases acc with
    | nil => exact .nil
    | cons _ _ => simp at hl
  | @cons a b l₁ l₂ r t ih =>
    intro acc hl hv
    cases acc with
    | nil => simp at hl
    | cons v acc =>
      obtain ⟨k, x, e, hk⟩ := hv 0 v rfl
      have e : b = (k, x) := Option.some.inj e
      subst e
      refine .cons ?_ (ih (by simpa using hl) fun j u e => hv (j + 1) u (by simpa using e))
      show L2.RelV (kV a.1) v
      rw [show a.1 = k from r.1]
      exact relV_key hk
theorem valVals {kvs : List (Key × V)} {vs : List (Key × Value)} (kv : KV kvs vs) : ∀ {acc : List Value}, acc.length = vs.length → (∀ (j : Nat) (v : Value), acc[j]? = some v → ∃ (k : Key), vs[j]? = some (k, v)) → Vals (kvs.map fun p => p.2) acc := by
  unfold KV at kv
  induction kv with
  | nil =>
    intro acc hl _
    cases acc with
    | nil => exact .nil
    | cons _ _ => simp at hl
  | @cons a b l₁ l₂ r t ih =>
    intro acc hl hv
    cases acc with
    | nil => simp at hl
    | cons v acc =>
      obtain ⟨k, e⟩ := hv 0 v rfl
      have e : b = (k, v) := Option.some.inj e
      subst e
      exact .cons r.2 (ih (by simpa using hl) fun j u e => hv (j + 1) u (by simpa using e))
/-- list(d): the keys -/
theorem call_listD (hc : X.calm = true) : CallR X (.type "list") (fun xs H Q => ∃ a kvs, xs = [.ref a] ∧ Rd H a (.dK kvs) ∧ ∀ l, H l = none → Q (.ref l) (upd H l (.lst (kvs.map fun p => kV p.1)))) := by
  intro pins s σ H xs us Q I r h
  obtain ⟨a, kvs, rfl, ha, q⟩ := h
  rw [Vals.ref1 r]
  obtain ⟨z, hd, vs, kv, dd⟩ := dk_rd I.hok ha
  obtain ⟨ep, hat⟩ := dd.dictAt
  have hl : kvs.length = vs.length := Paired.length kv
  refine PySem.W.kdl_call (PySem.W.kdl_dict (knd := mixKind X.prog X.w) (kvs := vs) (ep := ep) hd) (I.ok.hd hc) hat (by rw [← hl]; exact z) fun h' tk acc c hk hD hacc => ?_
  refine ⟨.ref _, _, I.laid (a := s.heap.objs.size) (o := .lst (kvs.map fun p => kV p.1)) hk (Nat.le_refl _) ⟨by rw [List.length_map]; exact z, acc.toList, c, keyVals kv (by rw [Array.length_toList]; exact hacc.1) fun j v e => ?_, by rw [hD]⟩, rfl, q _ (I.hok.fresh (Nat.le_refl _))⟩
  exact hacc.2 j v (by rw [← Array.getElem?_toList]; exact e)
/-- list(d.values()) -/
theorem pe_listVals {e : Expr} {td : TE} {p pos apos cpos : Pos} (hc : X.calm = true) (hg : Gl X "list") (hm : X.mg "list" = none) (he : PE X e td)
    (hbase : attributeBase e "values" X.env (eval e X.env) = eval e X.env := by rfl) (hline : (apos.endLine == cpos.line) = true := by rfl)
    (hs : starEach [.Call (.Attribute e "values" apos) [] [] cpos] X.env = [(false, eval (.Call (.Attribute e "values" apos) [] [] cpos) X.env)] := by rfl) :
    PE X (.Call (.Name "list" p) [.Call (.Attribute e "values" apos) [] [] cpos] [] pos) (fun σ H Q => td σ H fun x H1 => ∃ d kvs, x = .ref d ∧ H1 d = some (.dK kvs) ∧ ∀ l, H1 l = none → Q (.ref l) (upd H1 l (.lst (kvs.map fun q => q.2)))) := by
  intro pins s σ H Q I h
  refine Call_ (ld_blt I hg hm PyProof.Rows.boot_list (PyProof.Rows.callWith_type1 ?_ hs rfl))
  rw [hs]
  refine Calls.spliced_cons (rest := []) ?_
  refine wpAny_Call_method (T := "dict") (id := "dict.values") hbase rfl hline F.plainAttrs_dict F.slot_dict_values F.type_dict_values (thn (he pins s σ H _ I h) fun u s1 ⟨x, H1, I1, rx, d, kvs, ex, hd, q⟩ => ?_)
  subst ex
  obtain rfl : u = Value.ref d := rx
  obtain ⟨z, hsm, vs, kv, dd⟩ := dk_of I1.hok hd
  obtain ⟨ep, hat⟩ := dd.dictAt
  refine ⟨dd.typeIs, dd.mapOf.noDict, ?_⟩
  have I2 : Inv X pins σ H1 { s1 with heap := s1.heap.push { cls := .type "dict_values", data := .fields #[.ref d] } } := I1.kept (t' := s1.toks) fun b ob q => Heap.get?_push_of_some _ q
  show wpAny _ _ (callWith cpos (.builtin "dict.values") [.ref d] [] []) _ X.xe s1
  refine method_meetsIn F.slot_dict_values F.entry_dict_values rfl (PySem.evalArgs_none ⟨rfl, dd.typeIs, F.args_dict_values_1 _, _, meets_dict_values (mixKind X.prog X.w) d hsm, ⟨vs, dd⟩, ?_⟩)
  refine Calls.spliced_nil ?_
  have hl : kvs.length = vs.length := Paired.length kv
  refine PySem.W.kdl_call (PySem.W.kdl_values (knd := mixKind X.prog X.w) (kvs := vs) (ep := ep) (d := d)) (I.ok.hd hc) ⟨⟨_, Heap.get?_push_size _ rfl, rfl, rfl⟩, hat.push _⟩ (by rw [← hl]; exact z) fun h' tk acc c hk hD hacc => ?_
  refine ⟨.ref _, _, I2.laid (a := _) (o := .lst (kvs.map fun p => p.2)) hk (Nat.le_refl _) ⟨by rw [List.length_map]; exact z, acc.toList, c, valVals kv (by rw [Array.length_toList]; exact hacc.1) fun j v e => ?_, by rw [hD]⟩, rfl, q _ (I2.hok.fresh (Nat.le_refl _))⟩
  exact hacc.2 j v (by rw [← Array.getElem?_toList]; exact e)
/-- sorted(d): the keys, whole numbers -/
theorem call_sortedD (hc : X.calm = true) : CallR X (.builtin "sorted") (fun xs H Q => ∃ (a : Addr) (kvs : List (Key × V)) (ns : List Int), xs = [.ref a] ∧ Rd H a (.dK kvs) ∧ (kvs.map fun p => kV p.1) = ns.map V.int ∧ ns.length < 64 ∧
    ∀ (ns' : List Int) (p : Addr), ns'.Perm ns → ns'.Pairwise (· ≤ ·) → H p = none → Q (.ref p) (upd H p (.lst (ns'.map V.int)))) := by
  intro pins s σ H xs us Q I r h
  obtain ⟨a, kvs, ns, rfl, ha, en, h64, q⟩ := h
  rw [Vals.ref1 r]
  obtain ⟨z, hd, vs, kv, dd⟩ := dk_rd I.hok ha
  obtain ⟨ep, hat⟩ := dd.dictAt
  have hl : kvs.length = vs.length := Paired.length kv
  refine Calls.call_function_entry kind_sorted plain_sorted entry_sorted (args_sorted1 _) ?_
  unfold Builtin.«sorted»
  refine wpAny_bind (m := checkCount "sorted" 1 1 _) (wpAny_pure ?_)
  refine wpAny_bind (PySem.W.kdu_collect (A := X.A.in1) (PySem.W.kdl_dict (knd := mixKind X.prog X.w) (kvs := vs) (ep := ep) hd) (I.ok.hd hc) hat (by rw [← hl]; exact z) fun h' tk acc hk hacc => ?_)
  have hln : acc.toList.length = vs.length := by rw [Array.length_toList]; exact hacc.1
  have va : Vals (ns.map V.int) acc.toList := by
    rw [← en]
    exact keyVals kv hln fun j v e => hacc.2 j v (by rw [← Array.getElem?_toList]; exact e)
  have hi := va.ints
  have I2 : Inv X pins σ H { s with heap := h', toks := tk } := I.kept hk
  refine wpAny_bind (wpAny_newList ?_ (by rw [hln, ← hl]; exact z))
  have hob : (h'.push { cls := .type "list", data := .seq acc.toList.toArray }).get? h'.objs.size = some { cls := .type "list", data := .seq acc.toList.toArray } := Heap.get?_push_size _ rfl
  refine wpAny_bind (wpAny_holding (wpAny_mono (wpAny_call_entry (Q := fun _ s' => EP X pins σ Q (.ref h'.objs.size) s') PyProof.Rows.slot_list_sort ⟨_, hob, rfl⟩ PyProof.Rows.entry_list_sort
    (PyProof.Rows.list_sort_tree hob hi (by rw [hi.length]; exact h64) fun out ns' h1 h2 h3 => ⟨.none, rfl, ?_⟩) (PyProof.Rows.args_list_sort _)) (fun _ s' x => wpAny_pure ⟨_, rfl, x⟩) fun _ _ e => e))
  obtain ⟨ep', he'⟩ := PyProof.Rows.sortedHeap_at (vs := acc.toList) (out := out) hob
  have hlen : (ns'.map V.int).length ≤ sizeLine := by rw [List.length_map, h2.length_eq]; exact small64 h64
  refine ⟨.ref _, upd H h'.objs.size (.lst (ns'.map V.int)), I2.laid (t' := tk) (fun b u hu => ?_) (Nat.le_refl _) ⟨hlen, out.toList, ep', vals_of_ints h1, he'⟩, rfl, q ns' _ h2 h3 (I2.hok.fresh (Nat.le_refl _))⟩
  have hlt : b < h'.objs.size := Heap.lt_size (show h'.get? b = some u from hu)
  rw [PyProof.Rows.sortedHeap_old (Nat.ne_of_lt hlt) (by rw [Heap.size_push]; exact Nat.lt_succ_of_lt hlt)]
  exact Heap.get?_push_of_some _ hu
/-- set(xs) of whole numbers, and its length -/
theorem call_setL (hc : X.calm = true) : CallR X (.type "set") (fun xs H Q => ∃ (a : Addr) (ns : List Int), xs = [.ref a] ∧ SqL X.K H a (ns.map V.int) ∧ ns.length < 64 ∧
    ∀ (S : Int → Bool) (n : Nat) (p : Addr), n ≤ ns.length → (n = ns.length ↔ ns.Nodup) → H p = none → Q (.ref p) (upd H p (.set S n))) := by
  intro pins s σ H xs us Q I r h
  obtain ⟨a, ns, rfl, hs, h64, q⟩ := h
  rw [Vals.ref1 r]
  obtain ⟨its, rv, hl, _⟩ := I.list hs
  have hlen : its.length = ns.length := rv.ints.length
  refine call_set_list (ns := ns) (I.ok.hd hc) hl.isList (by simpa using rv.ints) (by unfold scanBound; simp; omega) fun h' tk hS hk => ?_
  have hr : (List.range ns.length).map (fun i => ns.getD i 0) = ns := by
    refine List.ext_getElem (by simp) fun i h1 h2 => ?_
    simp [List.getD_eq_getElem?_getD, h2]
  have e1 : firstMet (fun i => ns.getD i 0) its.toArray.size = ns.foldl step_dedup [] := by
    unfold firstMet
    rw [List.size_toArray, hlen, hr]
  rw [e1] at hS
  refine ⟨.ref _, _, I.laid (a := s.heap.objs.size) (o := .set (fun k' => (ns.foldl step_dedup []).any fun x => x == k') (ns.foldl step_dedup []).length) (fun b o e => hk b o (Heap.lt_size e) e) (Nat.le_refl _) hS, rfl, q _ _ _ (dedup_le ns) (dedup_eq ns) (I.hok.fresh (Nat.le_refl _))⟩
theorem call_lenS : CallR X (.builtin "len") (fun xs H Q => ∃ a S n, xs = [V.ref a] ∧ H a = some (.set S n) ∧ Q (.int n) H) := by
  intro pins s σ H xs us Q I r h
  obtain ⟨a, S, n, rfl, ha, q⟩ := h
  rw [Vals.ref1 r]
  obtain ⟨o, es, ep, t, ho, hex, hd, _, _, hb, hf, hn⟩ := (show s.heap.SetOf (intKind X.prog X.w) a S n from I.hok a _ ha)
  refine call_len_set ho hex hd hf (by unfold scanBound at hb; omega) ⟨.int n, H, I.tok _, ⟨_, by rw [hn]⟩, q⟩
end
/-! ### a comprehension over a list whose items stand for data -/
theorem paired_get {α β : Type} {R : α → β → Prop} : ∀ {l : List α} {m : List β} {i : Nat} {x : α}, Paired R l m → l[i]? = some x → ∃ y, m[i]? = some y ∧ R x y
  | _, _, _, _, .nil, e => by simp at e
  | _, _, 0, _, .cons r _, e => by simp at e; subst e; exact ⟨_, rfl, r⟩
  | _, _, i + 1, x, .cons _ t, e => by
    obtain ⟨u, h1, h2⟩ := paired_get (i := i) (x := x) t (by simpa using e)
    exact ⟨u, by simpa using h1, h2⟩
theorem take_snoc {α : Type} {l : List α} {i : Nat} {x : α} (h : l[i]? = some x) : l.take (i + 1) = l.take i ++ [x] := by
  obtain ⟨hi, e⟩ := List.getElem?_eq_some_iff.mp h
  rw [List.take_succ_eq_append_getElem hi, e]
theorem lc_paired {K : PySem.W.Frag} {a : Addr} {xs : List V} {β : Type} {ys : List β} {R : V → β → Prop} {i : Nat} {tt : TT} {te : TE} {σ : L2.St} {H : Hp} {Qd : Addr → Hp → Prop} (pr : Paired R xs ys) (hl : H a = some (.lst xs)) (hi : i < σ.length) (hz : xs.length ≤ sizeLine)
    (c : β → Bool) (f : β → V) (ht : ∀ x y, R x y → ∀ (H' : Hp) (Q : Bool → Hp → Prop), Same H H' → Q (c y) H' → tt (σ.set i (some x)) H' Q)
    (he : ∀ x y, R x y → c y = true → ∀ (H' : Hp) (Q : VK), Same H H' → Q (f y) H' → te (σ.set i (some x)) H' Q) (k : ∀ (D : Addr), H D = none → Qd D (upd H D (.lst ((ys.filter c).map f)))) :
    ∀ D, H D = none → ∃ W : Nat → Nat → Hp → Prop, (∃ m, W 0 m (upd H D (.lst []))) ∧ ∀ j m H, W j m H →
      ((Itl K a).stop j H ∧ Qd D H) ∨ ((Itl K a).go j H ∧ ∃ Nx : Hp → Prop, (∀ H', Nx H' → ∃ m', m' < m ∧ W (j + 1) m' H') ∧ ∀ x H', (Itl K a).yld j H x H' → gName i x (wipe σ [i]) H' fun σ2 H2 => wipe σ2 [i] = wipe σ [i] ∧ tt σ2 H2 fun b H3 =>
        if b = true then te σ2 H3 fun y H4 => ∃ acc, H4 D = some (.lst acc) ∧ acc.length < sizeLine ∧ Nx (upd H4 D (.lst (acc ++ [y]))) else Nx H3) := by
  intro D hD
  have hlen : xs.length = ys.length := Paired.length pr
  refine lc_list (K := K) (a := a) (xs := xs) (fun j H' => H' = upd H D (.lst (((ys.take j).filter c).map f))) rfl (fun j H' _ e => by rw [e]; exact SqL.of (by rw [upd_ne (ne_of_none hl hD)]; exact hl)) ?_ ?_
  · rintro j x H' hx rfl
    obtain ⟨y, hy, r⟩ := paired_get pr hx
    have w1 : (wipe σ [i]).set i (some x) = σ.set i (some x) := by
      show (σ.set i none).set i (some x) = σ.set i (some x)
      rw [List.set_set]
    have w2 : wipe (σ.set i (some x)) [i] = wipe σ [i] := by
      show (σ.set i (some x)).set i none = σ.set i none
      rw [List.set_set]
    have sm : Same H (upd H D (.lst (((ys.take j).filter c).map f))) := fun b o e => by rw [upd_ne (ne_of_none e hD)]; exact e
    show wipe ((wipe σ [i]).set i (some x)) [i] = wipe σ [i] ∧ tt ((wipe σ [i]).set i (some x)) _ _
    rw [w1]
    refine ⟨w2, ht x y r _ _ sm ?_⟩
    rw [take_snoc hy, List.filter_append]
    cases cy : c y with
    | true =>
      refine iteT (he x y r cy _ _ sm ⟨_, upd_same, ?_, ?_⟩)
      · rw [List.length_map]
        refine Nat.lt_of_le_of_lt (List.length_filter_le _ _) ?_
        rw [List.length_take]
        have := (List.getElem?_eq_some_iff.mp hy).1
        omega
      · rw [upd_upd, show ([y].filter c) = [y] from by simp [cy], List.map_append]
        rfl
    | false =>
      refine iteF ?_
      rw [show ([y].filter c) = [] from by simp [cy], List.append_nil]
  · rintro H' rfl
    rw [hlen, List.take_length]
    exact k D hD
/-- a tuple of the text's top -/
structure GlT (K : PySem.W.Frag) (mg : Str → Option Value) (x : Str) (xs : List V) where
  a : Addr
  m : mg x = some (.ref a)
  s : ∀ H : Hp, SqT K H a xs
abbrev tMax2 (a b : TE) : TE := tCB (fun xs H Q => ∃ i j, xs = [.int i, .int j] ∧ Q (.int (if j > i then j else i)) H) (tCons a (tCons b tNil))
abbrev tMin2 (a b : TE) : TE := tCB (fun xs H Q => ∃ i j, xs = [.int i, .int j] ∧ Q (.int (if j < i then j else i)) H) (tCons a (tCons b tNil))
/-- a comprehension over the keys of a locked dict -/
theorem lc_keys {d : Addr} {o : Obj} {kvs : List (Key × V)} {β : Type} {ys : List β} {R : Key × V → β → Prop} {i : Nat} {te : TE} {σ : L2.St} {H : Hp} {Qd : Addr → Hp → Prop} (pr : Paired R kvs ys) (hl : H d = some (.frz o (.dK kvs))) (hi : i < σ.length) (hz : kvs.length ≤ sizeLine)
    (f : β → V) (he : ∀ x y, R x y → ∀ (H' : Hp) (Q : VK), Same H H' → Q (f y) H' → te (σ.set i (some (kV x.1))) H' Q) (k : ∀ (D : Addr), H D = none → Qd D (upd H D (.lst (ys.map f)))) :
    ∀ D, H D = none → ∃ W : Nat → Nat → Hp → Prop, (∃ m, W 0 m (upd H D (.lst []))) ∧ ∀ j m H, W j m H →
      ((Itk d o kvs).stop j H ∧ Qd D H) ∨ ((Itk d o kvs).go j H ∧ ∃ Nx : Hp → Prop, (∀ H', Nx H' → ∃ m', m' < m ∧ W (j + 1) m' H') ∧ ∀ x H', (Itk d o kvs).yld j H x H' → gName i x (wipe σ [i]) H' fun σ2 H2 => wipe σ2 [i] = wipe σ [i] ∧ tYes σ2 H2 fun b H3 =>
        if b = true then te σ2 H3 fun y H4 => ∃ acc, H4 D = some (.lst acc) ∧ acc.length < sizeLine ∧ Nx (upd H4 D (.lst (acc ++ [y]))) else Nx H3) := by
  intro D hD
  have hlen : kvs.length = ys.length := Paired.length pr
  have ndd : d ≠ D := ne_of_none hl hD
  refine ⟨fun j m H' => m = kvs.length - j ∧ j ≤ kvs.length ∧ H' = upd H D (.lst ((ys.take j).map f)), ⟨kvs.length, by simp, Nat.zero_le _, rfl⟩, ?_⟩
  rintro j m H' ⟨rfl, hj, rfl⟩
  have q : (upd H D (.lst ((ys.take j).map f))) d = some (.frz o (.dK kvs)) := by rw [upd_ne ndd]; exact hl
  by_cases hlt : j < kvs.length
  · refine .inr ⟨⟨q, hlt⟩, fun H' => H' = upd H D (.lst ((ys.take (j + 1)).map f)), fun H' p' => ⟨kvs.length - (j + 1), by omega, rfl, hlt, p'⟩, fun x H' y => ?_⟩
    obtain ⟨rfl, ky, v, e, rfl⟩ := y
    obtain ⟨y, hy, r⟩ := paired_get pr e
    have w1 : (wipe σ [i]).set i (some (kV ky)) = σ.set i (some (kV ky)) := by
      show (σ.set i none).set i (some (kV ky)) = σ.set i (some (kV ky))
      rw [List.set_set]
    have w2 : wipe (σ.set i (some (kV ky))) [i] = wipe σ [i] := by
      show (σ.set i (some (kV ky))).set i none = σ.set i none
      rw [List.set_set]
    have sm : Same H (upd H D (.lst ((ys.take j).map f))) := fun b o e => by rw [upd_ne (ne_of_none e hD)]; exact e
    show wipe ((wipe σ [i]).set i (some (kV ky))) [i] = wipe σ [i] ∧ tYes ((wipe σ [i]).set i (some (kV ky))) _ _
    rw [w1]
    refine ⟨w2, ?_⟩
    unfold tYes
    simp only [if_true]
    refine he (ky, v) y r _ _ sm ⟨_, upd_same, ?_, ?_⟩
    · rw [List.length_map, List.length_take]; omega
    · rw [upd_upd, take_snoc hy, List.map_append]
      rfl
  · have e : j = kvs.length := by omega
    subst e
    refine .inl ⟨⟨q, Nat.le_refl _⟩, ?_⟩
    rw [hlen, List.take_length]
    exact k D hD
end Bl
/-! Mathematics of the halls: plain lists and numbers. -/
set_option Elab.async false
namespace Bc
open Kqv4
/-! ### slots -/
def gv {α : Type} (l : List (Option α)) (i : Nat) : Option α := l.getD i none
theorem gv_def {α : Type} (l : List (Option α)) (i : Nat) : l.getD i none = gv l i := rfl
theorem gv_ge {α : Type} {l : List (Option α)} {i : Nat} (h : l.length ≤ i) : gv l i = none := by
  unfold gv; rw [List.getD_eq_getElem?_getD, List.getElem?_eq_none h]; rfl
theorem gv_some {α : Type} {l : List (Option α)} {i : Nat} {x : α} (h : gv l i = some x) : i < l.length := by
  by_cases q : i < l.length
  · exact q
  · rw [gv_ge (by omega)] at h; cases h
theorem gv_set {α : Type} (l : List (Option α)) (i j : Nat) (x : Option α) : gv (l.set i x) j = if i = j ∧ i < l.length then x else gv l j := by
  unfold gv
  rw [List.getD_eq_getElem?_getD, List.getD_eq_getElem?_getD, List.getElem?_set]
  by_cases e : i = j
  · subst e
    by_cases q : i < l.length <;> simp [q]
  · simp [e]
theorem gv_set_none {α : Type} (l : List (Option α)) (i j : Nat) : gv (l.set i none) j = if i = j then none else gv l j := by
  rw [gv_set]
  by_cases e : i = j
  · subst e
    by_cases q : i < l.length
    · simp [q]
    · simp [q]; exact gv_ge (by omega)
  · simp [e]
theorem gv_map {α : Type} (l : List (Option α)) (f : Option α → Option α) (hf : f none = none) (j : Nat) : gv (l.map f) j = f (gv l j) := by
  unfold gv
  rw [List.getD_eq_getElem?_getD, List.getD_eq_getElem?_getD, List.getElem?_map]
  cases l[j]? with
  | none => simp [hf]
  | some x => rfl
theorem slot_none {α : Type} (l : List (Option α)) : gv l (slot l) = none := by
  unfold slot
  cases e : l.findIdx? Option.isNone with
  | none => exact gv_ge (Nat.le_refl _)
  | some i =>
    obtain ⟨h, q, _⟩ := List.findIdx?_eq_some_iff_getElem.mp e
    unfold gv
    rw [List.getD_eq_getElem?_getD]
    simp [h]
    exact Option.isNone_iff_eq_none.mp q
theorem slot_le {α : Type} (l : List (Option α)) : slot l ≤ l.length := by
  unfold slot
  cases e : l.findIdx? Option.isNone with
  | none => exact Nat.le_refl _
  | some i =>
    obtain ⟨h, _⟩ := List.findIdx?_eq_some_iff_getElem.mp e
    exact Nat.le_of_lt h
theorem slot_min {α : Type} (l : List (Option α)) {i : Nat} (hi : i < slot l) : gv l i ≠ none := by
  have h1 : i < l.length := Nat.lt_of_lt_of_le hi (slot_le l)
  have : (l[i]).isNone = false := by
    unfold slot at hi
    cases e : l.findIdx? Option.isNone with
    | none =>
      have := List.findIdx?_eq_none_iff.mp e l[i] (List.getElem_mem h1)
      simpa using this
    | some j =>
      rw [e] at hi
      obtain ⟨h, q, r⟩ := List.findIdx?_eq_some_iff_getElem.mp e
      have := r i hi
      simpa [Option.isNone_iff_eq_none, Option.isSome_iff_ne_none] using this
  unfold gv
  rw [List.getD_eq_getElem?_getD]
  simp [h1]
  intro z
  rw [z] at this
  cases this
theorem gv_putIn {α : Type} (l : List (Option α)) (x : α) (j : Nat) : gv (putIn l x) j = if j = slot l then some x else gv l j := by
  unfold putIn
  split
  · rename_i h
    rw [gv_set]
    by_cases e : j = slot l
    · subst e; simp [h]
    · rw [if_neg (fun q => e q.1.symm), if_neg e]
  · rename_i h
    have e : slot l = l.length := by have := slot_le l; omega
    rw [e]
    unfold gv
    rw [List.getD_eq_getElem?_getD, List.getD_eq_getElem?_getD, List.getElem?_append]
    by_cases q : j < l.length
    · simp [q]; omega
    · by_cases z : j = l.length
      · subst z; simp
      · rw [if_neg q, if_neg z]
        have : j - l.length ≠ 0 := by omega
        rw [List.getElem?_eq_none (by simp; omega), List.getElem?_eq_none (by omega)]
/-- the least number that is free: by what it is -/
theorem slot_eq {α : Type} (l : List (Option α)) {n : Nat} (h : gv l n = none) (m : ∀ i, i < n → gv l i ≠ none) : slot l = n := by
  have h1 := slot_none l
  by_cases a : slot l < n
  · exact absurd h1 (m _ a)
  · by_cases b : n < slot l
    · exact absurd h (slot_min l b)
    · omega
/-! ### all, as a list of pairs -/
def prs {α : Type} (l : List (Option α)) : List (Nat × α) := (List.range l.length).filterMap fun i => (l.getD i none).map fun j => (i, j)
theorem all_eq (h : Hall) : all h = prs h.jobs := rfl
theorem mem_prs {α : Type} {l : List (Option α)} {i : Nat} {x : α} : (i, x) ∈ prs l ↔ gv l i = some x := by
  unfold prs
  rw [List.mem_filterMap]
  constructor
  · rintro ⟨a, _, e⟩
    rw [gv_def] at e
    cases q : gv l a with
    | none => rw [q] at e; cases e
    | some y =>
      rw [q] at e
      have := Option.some.inj e
      injection this with e1 e2
      subst e1 e2
      exact q
  · intro e
    refine ⟨i, List.mem_range.mpr (gv_some e), ?_⟩
    rw [gv_def, e]; rfl
theorem prs_keys {α : Type} (l : List (Option α)) : (prs l).map (·.1) = (List.range l.length).filter fun i => (l.getD i none).isSome := by
  unfold prs
  rw [List.map_filterMap, ← List.filterMap_eq_filter]
  congr 1
  funext i
  rw [gv_def]
  show _ = Option.guard (fun i => (gv l i).isSome) i
  cases e : gv l i <;> simp [Option.guard, e]
theorem prs_nodup {α : Type} (l : List (Option α)) : ((prs l).map (·.1)).Nodup := by
  rw [prs_keys]
  exact List.Pairwise.filter _ List.nodup_range
theorem waiting_eq (h : Hall) : waiting h = (prs h.waits).map (·.1) := by
  rw [prs_keys]; rfl
end Bc
set_option Elab.async false
namespace Bc
open Kqv4
/-! ### the greatest -/
theorem fmax_ge : ∀ (l : List Nat) (a : Nat), a ≤ l.foldl max a ∧ ∀ x ∈ l, x ≤ l.foldl max a
  | [], a => ⟨Nat.le_refl _, fun x hx => by cases hx⟩
  | y :: l, a => by
    obtain ⟨h1, h2⟩ := fmax_ge l (max a y)
    rw [List.foldl_cons]
    refine ⟨by omega, fun x hx => ?_⟩
    rcases List.mem_cons.mp hx with e | e
    · subst e; omega
    · exact h2 x e
theorem fmax_mem : ∀ (l : List Nat) (a : Nat), l.foldl max a = a ∨ l.foldl max a ∈ l
  | [], a => .inl rfl
  | y :: l, a => by
    rw [List.foldl_cons]
    rcases fmax_mem l (max a y) with e | e
    · rw [e]
      by_cases q : a ≤ y
      · exact .inr (by rw [Nat.max_eq_right q]; exact List.mem_cons_self)
      · exact .inl (Nat.max_eq_left (by omega))
    · exact .inr (List.mem_cons_of_mem _ e)
theorem fmax_eq {l : List Nat} {a M : Nat} (hm : M = a ∨ M ∈ l) (ha : a ≤ M) (hl : ∀ x ∈ l, x ≤ M) : l.foldl max a = M := by
  obtain ⟨h1, h2⟩ := fmax_ge l a
  have q : M ≤ l.foldl max a := by
    rcases hm with e | e
    · rw [e]; exact h1
    · exact h2 M e
  rcases fmax_mem l a with e | e
  · omega
  · have := hl _ e; omega
theorem fmax_perm {l l' : List Nat} (p : l.Perm l') (a : Nat) : l.foldl max a = l'.foldl max a := by
  obtain ⟨h1, h2⟩ := fmax_ge l' a
  refine fmax_eq ?_ h1 fun x hx => h2 x (p.mem_iff.mp hx)
  rcases fmax_mem l' a with e | e
  · exact .inl e
  · exact .inr (p.mem_iff.mpr e)
theorem fold_max_map {α : Type} (f : α → Nat) : ∀ (l : List α) (a : Nat), l.foldl (fun t p => max t (f p)) a = (l.map f).foldl max a
  | [], _ => rfl
  | x :: l, a => by rw [List.foldl_cons, List.map_cons, List.foldl_cons, fold_max_map f l]
/-! ### a hall's jobs as a list -/
def js (h : Hall) : List Job := (all h).map (·.2)
theorem mem_js {h : Hall} {j : Job} : j ∈ js h ↔ ∃ i, gv h.jobs i = some j := by
  unfold js
  rw [List.mem_map]
  constructor
  · rintro ⟨⟨i, x⟩, m, e⟩
    have e : x = j := e
    subst e
    exact ⟨i, mem_prs.mp m⟩
  · rintro ⟨i, e⟩
    exact ⟨(i, j), mem_prs.mpr e, rfl⟩
theorem craneFree_eq (h : Hall) (t : Nat) : craneFree h t = (js h).all fun j => !(meet t h.lift j.lift h.lift) := by
  unfold craneFree js; rw [List.all_map]; rfl
theorem craneOver_eq (h : Hall) : craneOver h = ((js h).map fun j => j.lift + h.lift).foldl max 0 := by
  unfold craneOver js; rw [List.map_map]; rfl
theorem over_eq (h : Hall) : over h = ((js h).map (ends h)).foldl max h.minute := by
  unfold over js; rw [List.map_map]; rfl
theorem freeAt_eq (h : Hall) (m : Nat) : freeAt h m = (((js h).filter fun j => j.mould == m).map (free h)).foldl max h.minute := by
  unfold freeAt js
  rw [fold_max_map (fun p : Nat × Job => free h p.2), List.filter_map, List.map_map]
  rfl
/-! ### the first minute at which the crane has time -/
theorem craneFree_iff {h : Hall} {t : Nat} : craneFree h t = true ↔ ∀ j ∈ js h, t + h.lift ≤ j.lift ∨ j.lift + h.lift ≤ t := by
  rw [craneFree_eq, List.all_eq_true]
  constructor
  · intro q j hj
    have := q j hj
    unfold meet at this
    simp at this
    omega
  · intro q j hj
    have := q j hj
    unfold meet
    simp
    omega
theorem lifts_char (h : Hall) (t : Nat) : t ≤ lifts h t ∧ craneFree h (lifts h t) = true ∧ ∀ v, t ≤ v → v < lifts h t → craneFree h v = false := by
  have top : craneFree h (max t (craneOver h)) = true := by
    rw [craneFree_iff]
    intro j hj
    have := (fmax_ge ((js h).map fun j => j.lift + h.lift) 0).2 (j.lift + h.lift) (List.mem_map.mpr ⟨j, hj, rfl⟩)
    rw [← craneOver_eq] at this
    omega
  unfold lifts
  cases e : (((List.range (craneOver h - t + 1)).map fun i => t + i).find? fun u => craneFree h u) with
  | none =>
    have := List.find?_eq_none.mp e (max t (craneOver h)) (List.mem_map.mpr ⟨craneOver h - t, List.mem_range.mpr (by omega), by omega⟩)
    exact absurd top this
  | some u =>
    obtain ⟨pu, i, hi, eu, before⟩ := List.find?_eq_some_iff_getElem.mp e
    simp only [List.length_map, List.length_range] at hi
    simp only [List.getElem_map, List.getElem_range] at eu before
    refine ⟨by simp; omega, by simpa using pu, fun v h1 h2 => ?_⟩
    simp at h2
    have := before (v - t) (by omega)
    have q : t + (v - t) = v := by omega
    rw [q] at this
    simpa using this
theorem lifts_eq {h : Hall} {t u : Nat} (h1 : t ≤ u) (h2 : craneFree h u = true) (h3 : ∀ v, t ≤ v → v < u → craneFree h v = false) : lifts h t = u := by
  obtain ⟨a, b, c⟩ := lifts_char h t
  by_cases q : lifts h t < u
  · rw [h3 _ a q] at b; cases b
  · by_cases r : u < lifts h t
    · rw [c u h1 r] at h2; cases h2
    · omega
/-- the walk over lifts that rise -/
def walk (L : Int) : List Int → Int → Int
  | [], f => f
  | x :: r, f => if f + L ≤ x then f else walk L r (if f < x + L then x + L else f)
theorem walk_char (L : Int) (hL : 0 ≤ L) : ∀ (xs : List Int) (f : Int), xs.Pairwise (· ≤ ·) →
    f ≤ walk L xs f ∧ (∀ x ∈ xs, walk L xs f + L ≤ x ∨ x + L ≤ walk L xs f) ∧ ∀ v, f ≤ v → v < walk L xs f → ∃ x ∈ xs, v < x + L ∧ x < v + L
  | [], f, _ => ⟨Int.le_refl _, fun x hx => (by cases hx), fun v h1 h2 => (by unfold walk at h2; omega)⟩
  | y :: r, f, hp => by
    have hr := List.pairwise_cons.mp hp
    unfold walk
    by_cases c : f + L ≤ y
    · rw [if_pos c]
      refine ⟨Int.le_refl _, fun x hx => ?_, fun v h1 h2 => by omega⟩
      rcases List.mem_cons.mp hx with e | e
      · subst e; exact .inl c
      · have := hr.1 x e; exact .inl (by omega)
    · rw [if_neg c]
      obtain ⟨a, b, d⟩ := walk_char L hL r (if f < y + L then y + L else f) hr.2
      have g1 : f ≤ (if f < y + L then y + L else f) ∧ y + L ≤ (if f < y + L then y + L else f) := by split <;> omega
      refine ⟨by omega, fun x hx => ?_, fun v h1 h2 => ?_⟩
      · rcases List.mem_cons.mp hx with e | e
        · subst e; exact .inr (by omega)
        · exact b x e
      · by_cases q : v < (if f < y + L then y + L else f)
        · refine ⟨y, List.mem_cons_self, ?_⟩
          split at q <;> omega
        · obtain ⟨x, hx, z⟩ := d v (by omega) h2
          exact ⟨x, List.mem_cons_of_mem _ hx, z⟩
theorem walk_lifts {h : Hall} {xs : List Int} {t : Nat} (hs : xs.Pairwise (· ≤ ·)) (hm : ∀ z : Int, z ∈ xs ↔ ∃ j ∈ js h, z = (j.lift : Int)) : walk (h.lift : Int) xs (t : Int) = (lifts h t : Int) := by
  obtain ⟨a, b, c⟩ := walk_char (h.lift : Int) (by omega) xs (t : Int) hs
  have hu : walk (h.lift : Int) xs (t : Int) = ((walk (h.lift : Int) xs (t : Int)).toNat : Int) := by omega
  generalize walk (h.lift : Int) xs (t : Int) = u at a b c hu ⊢
  rw [hu]
  refine congrArg Nat.cast (lifts_eq (h := h) (t := t) (u := u.toNat) (by omega) ?_ fun v h1 h2 => ?_).symm
  · rw [craneFree_iff]
    intro j hj
    have := b j.lift ((hm _).mpr ⟨j, hj, rfl⟩)
    omega
  · obtain ⟨x, hx, z⟩ := c (v : Int) (by omega) (by omega)
    obtain ⟨j, hj, e⟩ := (hm x).mp hx
    cases q : craneFree h v with
    | false => rfl
    | true =>
      have := craneFree_iff.mp q j hj
      omega
/-! ### halls alike but for the order of their jobs -/
structure Sim (g h : Hall) : Prop where
  lift : g.lift = h.lift
  clean : g.clean = h.clean
  minute : g.minute = h.minute
  moulds : g.moulds = h.moulds
  js : (js g).Perm (js h)
theorem Sim.refl (h : Hall) : Sim h h := ⟨rfl, rfl, rfl, rfl, List.Perm.refl _⟩
theorem Sim.symm {g h : Hall} (s : Sim g h) : Sim h g := ⟨s.lift.symm, s.clean.symm, s.minute.symm, s.moulds.symm, s.js.symm⟩
theorem Sim.trans {g h k : Hall} (s : Sim g h) (t : Sim h k) : Sim g k := ⟨s.lift.trans t.lift, s.clean.trans t.clean, s.minute.trans t.minute, s.moulds.trans t.moulds, s.js.trans t.js⟩
theorem Sim.free {g h : Hall} (s : Sim g h) : free g = free h := by
  funext j; unfold Kqv4.free; rw [s.lift, s.clean]
theorem Sim.ends {g h : Hall} (s : Sim g h) : ends g = ends h := by
  funext j; unfold Kqv4.ends; rw [s.lift]
theorem Sim.over {g h : Hall} (s : Sim g h) : over g = over h := by
  rw [over_eq, over_eq, s.ends, s.minute]
  exact fmax_perm (s.js.map _) _
theorem Sim.freeAt {g h : Hall} (s : Sim g h) (m : Nat) : freeAt g m = freeAt h m := by
  rw [freeAt_eq, freeAt_eq, s.free, s.minute]
  exact fmax_perm ((s.js.filter _).map _) _
theorem Sim.craneFree {g h : Hall} (s : Sim g h) (t : Nat) : craneFree g t = craneFree h t := by
  rw [Bool.eq_iff_iff, craneFree_iff, craneFree_iff, s.lift]
  constructor
  · intro q j hj; exact q j (s.js.mem_iff.mpr hj)
  · intro q j hj; exact q j (s.js.mem_iff.mp hj)
theorem Sim.lifts {g h : Hall} (s : Sim g h) (t : Nat) : lifts g t = lifts h t := by
  obtain ⟨a, b, c⟩ := lifts_char h t
  exact lifts_eq a (by rw [s.craneFree]; exact b) fun v h1 h2 => by rw [s.craneFree]; exact c v h1 h2
theorem Sim.jobIn {g h : Hall} (s : Sim g h) (b : Blade) (m : Nat) : jobIn g b m = jobIn h b m := by
  unfold Kqv4.jobIn; rw [s.freeAt, s.lifts]
theorem Sim.best {g h : Hall} (s : Sim g h) (b : Blade) : best g b = best h b := by
  unfold Kqv4.best Kqv4.mouldsOf
  rw [s.moulds, s.ends, show Kqv4.jobIn g b = Kqv4.jobIn h b from funext fun m => s.jobIn b m]
/-! ### the first of the least -/
def pick {α : Type} (k : α → Nat) (b : Option α) (x : α) : Option α := match b with
  | none => some x
  | some a => if k x < k a then some x else some a
def IsFirst {α : Type} (k : α → Nat) (l : List α) (a : α) : Prop := ∃ pre post, l = pre ++ a :: post ∧ (∀ x ∈ pre, k a < k x) ∧ ∀ x ∈ post, k a ≤ k x
theorem IsFirst.le {α : Type} {k : α → Nat} {l : List α} {a : α} (h : IsFirst k l a) : ∀ x ∈ l, k a ≤ k x := by
  obtain ⟨pre, post, rfl, h1, h2⟩ := h
  intro x hx
  rcases List.mem_append.mp hx with e | e
  · exact Nat.le_of_lt (h1 x e)
  · rcases List.mem_cons.mp e with e | e
    · subst e; exact Nat.le_refl _
    · exact h2 x e
theorem pick_first {α : Type} (k : α → Nat) : ∀ (l : List α) (c : α), ∃ a, l.foldl (pick k) (some c) = some a ∧ IsFirst k (c :: l) a
  | [], c => ⟨c, rfl, [], [], rfl, (fun x hx => by cases hx), fun x hx => by cases hx⟩
  | y :: l, c => by
    rw [List.foldl_cons]
    by_cases lt : k y < k c
    · have e : pick k (some c) y = some y := by unfold pick; simp [lt]
      rw [e]
      obtain ⟨a, ea, f⟩ := pick_first k l y
      have le := f.le y (by simp)
      obtain ⟨pre, post, ep, h1, h2⟩ := f
      refine ⟨a, ea, c :: pre, post, by rw [ep]; rfl, fun x hx => ?_, h2⟩
      rcases List.mem_cons.mp hx with e | e
      · subst e; omega
      · exact h1 x e
    · have e : pick k (some c) y = some c := by unfold pick; simp [lt]
      rw [e]
      obtain ⟨a, ea, pre, post, ep, h1, h2⟩ := pick_first k l c
      refine ⟨a, ea, ?_⟩
      cases pre with
      | nil =>
        have e1 : c = a := (List.cons.inj ep).1
        have e2 : l = post := (List.cons.inj ep).2
        subst e1 e2
        refine ⟨[], y :: l, rfl, (fun x hx => by cases hx), fun x hx => ?_⟩
        rcases List.mem_cons.mp hx with e | e
        · subst e; omega
        · exact h2 x e
      | cons z pre =>
        have e1 : c = z := (List.cons.inj ep).1
        have e2 : l = pre ++ a :: post := (List.cons.inj ep).2
        subst e1 e2
        refine ⟨c :: y :: pre, post, rfl, fun x hx => ?_, h2⟩
        have hc := h1 c (by simp)
        rcases List.mem_cons.mp hx with e | e
        · subst e; exact hc
        · rcases List.mem_cons.mp e with e | e
          · subst e; omega
          · exact h1 x (by simp [e])
/-- the fold of the strictly lesser is the first of the least -/
theorem find_pick {α : Type} (k : α → Nat) (l : List α) : (l.find? fun j => l.all fun i => decide (k j ≤ k i)) = l.foldl (pick k) none := by
  cases l with
  | nil => rfl
  | cons c l =>
    obtain ⟨a, ea, f⟩ := pick_first k l c
    have le := f.le
    rw [List.foldl_cons, show pick k none c = some c from rfl, ea]
    obtain ⟨pre, post, ep, h1, h2⟩ := f
    rw [List.find?_eq_some_iff_append]
    refine ⟨List.all_eq_true.mpr fun i hi => decide_eq_true (le i hi), pre, post, ep, fun x hx => ?_⟩
    have := h1 x hx
    cases q : ((c :: l).all fun i => decide (k x ≤ k i)) with
    | false => rfl
    | true =>
      have := of_decide_eq_true (List.all_eq_true.mp q a (by rw [ep]; simp))
      omega
/-- what is no less leaves it -/
theorem pick_keep {α : Type} (k : α → Nat) (a : α) : ∀ (l : List α), (∀ x ∈ l, k a ≤ k x) → l.foldl (pick k) (some a) = some a
  | [], _ => rfl
  | y :: l, h => by
    rw [List.foldl_cons]
    have e : pick k (some a) y = some a := by unfold pick; have := h y (by simp); simp; omega
    rw [e]
    exact pick_keep k a l fun x hx => h x (by simp [hx])
end Bc
set_option Elab.async false
namespace Bc
open Kqv4
/-! ### pairs by number, in whatever order: a dict beside slots -/
structure Sl {α : Type} (l : List (Nat × α)) (s : List (Option α)) : Prop where
  nd : (l.map (·.1)).Nodup
  mem : ∀ i x, (i, x) ∈ l ↔ gv s i = some x
theorem nodup_of_keys {α : Type} {l : List (Nat × α)} (h : (l.map (·.1)).Nodup) : l.Nodup :=
  List.Pairwise.of_map (S := (· ≠ ·)) (·.1) (fun _ _ q e => q (by rw [e])) h
theorem sl_prs {α : Type} (s : List (Option α)) : Sl (prs s) s := ⟨prs_nodup s, fun _ _ => mem_prs⟩
theorem Sl.perm {α : Type} {l : List (Nat × α)} {s : List (Option α)} (h : Sl l s) : l.Perm (prs s) :=
  (List.perm_ext_iff_of_nodup (nodup_of_keys h.nd) (nodup_of_keys (prs_nodup s))).mpr fun ⟨i, x⟩ => (h.mem i x).trans mem_prs.symm
theorem Sl.len {α : Type} {l : List (Nat × α)} {s : List (Option α)} (h : Sl l s) : l.length = (prs s).length := h.perm.length_eq
theorem sl_nil {α : Type} : Sl ([] : List (Nat × α)) [] := ⟨by simp, fun i x => by unfold gv; simp⟩
theorem Sl.put {α : Type} {l : List (Nat × α)} {s : List (Option α)} (h : Sl l s) (x : α) : Sl (l ++ [(slot s, x)]) (putIn s x) := by
  refine ⟨?_, fun i y => ?_⟩
  · rw [List.map_append]
    refine List.nodup_append.mpr ⟨h.nd, by simp, fun a ha b hb => ?_⟩
    obtain ⟨⟨i, y⟩, m, e⟩ := List.mem_map.mp ha
    have e : i = a := e
    subst e
    have hb : b = slot s := by simpa using hb
    intro q
    subst q
    have := (h.mem _ _).mp m
    rw [hb, slot_none] at this
    cases this
  · rw [gv_putIn, List.mem_append]
    by_cases e : i = slot s
    · rw [if_pos e]
      constructor
      · rintro (m | m)
        · have := (h.mem _ _).mp m
          rw [e, slot_none] at this
          cases this
        · have m : (i, y) = (slot s, x) := by simpa using m
          rw [(Prod.mk.inj m).2]
      · intro q
        exact .inr (by rw [e, Option.some.inj q]; simp)
    · rw [if_neg e, ← h.mem]
      constructor
      · rintro (m | m)
        · exact m
        · have m : (i, y) = (slot s, x) := by simpa using m
          exact absurd (Prod.mk.inj m).1 e
      · exact .inl
theorem Sl.drop {α : Type} {l : List (Nat × α)} {s : List (Option α)} (h : Sl l s) (w : Nat) : Sl (l.filter fun p => p.1 != w) (s.set w none) := by
  refine ⟨?_, fun i y => ?_⟩
  · refine List.Pairwise.sublist (List.Sublist.map _ List.filter_sublist) h.nd
  · rw [gv_set_none, List.mem_filter, h.mem]
    by_cases e : w = i
    · subst e; simp
    · simp [e]; intro _; exact fun q => e q.symm
theorem waiting_perm {l : List (Nat × Blade)} {h : Hall} (q : Sl l h.waits) : (l.map (·.1)).Perm (waiting h) := by
  rw [waiting_eq]; exact q.perm.map _
theorem waiting_len {l : List (Nat × Blade)} {h : Hall} (q : Sl l h.waits) : l.length = (waiting h).length := by
  have := (waiting_perm q).length_eq
  rwa [List.length_map] at this
theorem mem_waiting {h : Hall} {w : Nat} : w ∈ waiting h ↔ ∃ b, gv h.waits w = some b := by
  rw [waiting_eq, List.mem_map]
  constructor
  · rintro ⟨⟨i, b⟩, m, e⟩
    have e : i = w := e
    subst e
    exact ⟨b, mem_prs.mp m⟩
  · rintro ⟨b, e⟩
    exact ⟨(w, b), mem_prs.mpr e, rfl⟩
theorem waiting_nodup (h : Hall) : (waiting h).Nodup := by rw [waiting_eq]; exact prs_nodup _
theorem js_perm {l : List (Nat × Job)} {h : Hall} (q : Sl l h.jobs) : (l.map (·.2)).Perm (js h) := q.perm.map _
/-! ### one more job -/
def addJ (g : Hall) (w : Nat) (j : Job) : Hall := { g with waits := g.waits.set w none, jobs := putIn g.jobs j }
theorem js_putIn {h g : Hall} {j : Job} (e : g.jobs = putIn h.jobs j) : (js g).Perm (js h ++ [j]) := by
  have q : (prs g.jobs).Perm (prs h.jobs ++ [(slot h.jobs, j)]) := by rw [e]; exact ((sl_prs h.jobs).put j).perm.symm
  have := q.map (·.2)
  rw [List.map_append] at this
  exact this
theorem put_eq (g : Hall) (w : Nat) : put g w = (gv g.waits w).bind fun b => (best g b).map fun j => addJ g w j := by
  unfold put
  rw [gv_def]
  cases gv g.waits w <;> rfl
/-- is there a mould of its kind -/
def hasM (h : Hall) (b : Blade) : Prop := b.kind ∈ h.moulds
theorem mouldsOf_nil {h : Hall} {k : Nat} : mouldsOf h k = [] ↔ k ∉ h.moulds := by
  unfold mouldsOf
  rw [List.filter_eq_nil_iff]
  constructor
  · intro q m
    obtain ⟨i, hi, e⟩ := List.getElem_of_mem m
    refine q i (List.mem_range.mpr hi) ?_
    rw [List.getD_eq_getElem?_getD]
    simp [hi, e]
  · intro q i hi z
    have hi := List.mem_range.mp hi
    rw [List.getD_eq_getElem?_getD] at z
    simp [hi] at z
    exact q (by rw [← z]; exact List.getElem_mem hi)
theorem best_pick (h : Hall) (b : Blade) : best h b = ((mouldsOf h b.kind).map (jobIn h b)).foldl (pick (ends h)) none := by
  unfold best
  exact find_pick (ends h) _
theorem foldl_pick_some {α : Type} (k : α → Nat) (l : List α) (c : α) : ∃ a, l.foldl (pick k) (some c) = some a := let ⟨a, e, _⟩ := pick_first k l c; ⟨a, e⟩
theorem best_none {h : Hall} {b : Blade} : best h b = none ↔ b.kind ∉ h.moulds := by
  rw [← mouldsOf_nil, best_pick]
  cases e : mouldsOf h b.kind with
  | nil => simp
  | cons m r =>
    rw [List.map_cons, List.foldl_cons]
    obtain ⟨a, q⟩ := foldl_pick_some (ends h) (r.map (jobIn h b)) (jobIn h b m)
    rw [show pick (ends h) none (jobIn h b m) = some (jobIn h b m) from rfl, q]
    simp
theorem over_add {h g : Hall} {j : Job} (p : (js g).Perm (js h ++ [j])) (el : g.lift = h.lift) (em : g.minute = h.minute) : over h ≤ over g := by
  rw [over_eq, over_eq, em, show ends g = ends h from funext fun k => by unfold ends; rw [el]]
  have a := fmax_ge ((js g).map (ends h)) h.minute
  rcases fmax_mem ((js h).map (ends h)) h.minute with e | e
  · rw [e]; exact a.1
  · obtain ⟨k, hk, ek⟩ := List.mem_map.mp e
    rw [← ek]
    exact a.2 _ (List.mem_map.mpr ⟨k, p.mem_iff.mpr (List.mem_append_left _ hk), rfl⟩)
theorem put_over {g k : Hall} {w : Nat} (h : put g w = some k) : over g ≤ over k := by
  rw [put_eq] at h
  cases e : gv g.waits w with
  | none => rw [e] at h; cases h
  | some b =>
    rw [e] at h
    cases f : best g b with
    | none => simp [f] at h
    | some j =>
      simp [f] at h
      subst h
      exact over_add (js_putIn (h := g) (g := addJ g w j) (j := j) rfl) rfl rfl
theorem puts_over : ∀ (l : List Nat) (g k : Hall), puts g l = some k → over g ≤ over k
  | [], g, k, h => by
    have : g = k := Option.some.inj h
    subst this; exact Nat.le_refl _
  | w :: l, g, k, h => by
    have h : (put g w).bind (fun g => puts g l) = some k := h
    cases e : put g w with
    | none => rw [e] at h; cases h
    | some g' =>
      rw [e] at h
      exact Nat.le_trans (put_over e) (puts_over l g' k h)
/-! ### when an order can be put -/
theorem puts_ok : ∀ (l : List Nat) (g : Hall), (∃ k, puts g l = some k) ↔ l.Nodup ∧ ∀ w ∈ l, ∃ b, gv g.waits w = some b ∧ b.kind ∈ g.moulds
  | [], g => ⟨fun _ => ⟨List.Pairwise.nil, fun w hw => by cases hw⟩, fun _ => ⟨g, rfl⟩⟩
  | w :: l, g => by
    have un : puts g (w :: l) = (put g w).bind fun g => puts g l := rfl
    rw [un, put_eq]
    cases e : gv g.waits w with
    | none =>
      constructor
      · rintro ⟨k, q⟩; cases q
      · rintro ⟨_, q⟩
        obtain ⟨b, eb, _⟩ := q w (by simp)
        rw [e] at eb; cases eb
    | some b =>
      cases f : best g b with
      | none =>
        constructor
        · rintro ⟨k, q⟩; simp [f] at q
        · rintro ⟨_, q⟩
          obtain ⟨b', eb, m⟩ := q w (by simp)
          rw [e] at eb
          rw [← Option.some.inj eb] at m
          exact absurd m (best_none.mp f)
      | some j =>
        have hb : b.kind ∈ g.moulds := by
          by_cases m : b.kind ∈ g.moulds
          · exact m
          · rw [best_none.mpr m] at f; cases f
        have ih := puts_ok l (addJ g w j)
        simp only [Option.bind_some, f, Option.map_some]
        rw [ih, List.nodup_cons]
        have gw : ∀ v, gv (addJ g w j).waits v = if w = v then none else gv g.waits v := fun v => gv_set_none g.waits w v
        constructor
        · rintro ⟨h1, h2⟩
          refine ⟨⟨fun m => ?_, h1⟩, fun v hv => ?_⟩
          · obtain ⟨b', eb, _⟩ := h2 w m
            rw [gw, if_pos rfl] at eb; cases eb
          · rcases List.mem_cons.mp hv with z | z
            · subst z; exact ⟨b, e, hb⟩
            · obtain ⟨b', eb, m⟩ := h2 v z
              rw [gw] at eb
              split at eb
              · cases eb
              · exact ⟨b', eb, m⟩
        · rintro ⟨⟨h0, h1⟩, h2⟩
          refine ⟨h1, fun v hv => ?_⟩
          obtain ⟨b', eb, m⟩ := h2 v (List.mem_cons_of_mem _ hv)
          refine ⟨b', ?_, m⟩
          rw [gw, if_neg (fun z => h0 (by rw [z]; exact hv))]
          exact eb
/-! ### orders -/
theorem orders_mem : ∀ (n : Nat) (l r : List Nat), l.length ≤ n → r ∈ orders n l → r.Nodup ∧ ∀ x, x ∈ r ↔ x ∈ l
  | 0, l, r, hn, h => by
    have : l = [] := List.eq_nil_of_length_eq_zero (by omega)
    subst this
    have : r = [] := by simpa [orders] using h
    subst this
    simp
  | n + 1, [], r, _, h => by
    have : r = [] := by simpa [orders] using h
    subst this
    simp
  | n + 1, a :: l, r, hn, h => by
    unfold orders at h
    obtain ⟨x, hx, h⟩ := List.mem_flatMap.mp h
    obtain ⟨r', hr, e⟩ := List.mem_map.mp h
    subst e
    have hl : ((a :: l).filter fun y => y != x).length ≤ n := by
      have : ((a :: l).filter fun y => y != x).length < (a :: l).length := by
        rw [List.length_filter_lt_length_iff_exists]
        exact ⟨x, hx, by simp⟩
      simp only [List.length_cons] at this hn ⊢
      omega
    obtain ⟨h1, h2⟩ := orders_mem n _ r' hl hr
    refine ⟨List.nodup_cons.mpr ⟨fun m => ?_, h1⟩, fun y => ?_⟩
    · have := (h2 x).mp m
      rw [List.mem_filter] at this
      simp at this
    · rw [List.mem_cons, h2, List.mem_filter]
      constructor
      · rintro (e | ⟨e, _⟩)
        · rw [e]; exact hx
        · exact e
      · intro m
        by_cases e : y = x
        · exact .inl e
        · exact .inr ⟨m, by simp [e]⟩
/-! ### the search with its cut -/
abbrev Found := Option (Nat × List Nat)
def runs (g : Hall) (placed : List Nat) (os : List (List Nat)) : List (Nat × List Nat) := os.filterMap fun r => (puts g r).map fun k => (over k, placed ++ r)
def dfs : Nat → Hall → List Nat → List Nat → Found → Found
  | 0, g, placed, _, found => pick (·.1) found (over g, placed)
  | n + 1, g, placed, left, found => if (match found with | some f => decide (f.1 ≤ over g) | none => false) = true then found
    else if left = [] then some (over g, placed)
    else left.foldl (fun fd x => match put g x with
      | some g' => dfs n g' (placed ++ [x]) (left.filter fun y => y != x) fd
      | none => fd) found
theorem runs_ge {g : Hall} {placed : List Nat} {os : List (List Nat)} : ∀ p ∈ runs g placed os, over g ≤ p.1 := by
  intro p hp
  obtain ⟨r, _, e⟩ := List.mem_filterMap.mp hp
  cases q : puts g r with
  | none => rw [q] at e; cases e
  | some k =>
    rw [q] at e
    have e : (over k, placed ++ r) = p := Option.some.inj e
    rw [← e]
    exact puts_over r g k q
theorem foldl_congr_mem {α β : Type} {f f' : β → α → β} : ∀ (l : List α) (b : β), (∀ b x, x ∈ l → f b x = f' b x) → l.foldl f b = l.foldl f' b
  | [], _, _ => rfl
  | x :: l, b, h => by
    rw [List.foldl_cons, List.foldl_cons, h b x (by simp)]
    exact foldl_congr_mem l _ fun b y hy => h b y (by simp [hy])
theorem foldl_flatMap' {α β γ : Type} (f : γ → β → γ) (g : α → List β) : ∀ (l : List α) (c : γ), (l.flatMap g).foldl f c = l.foldl (fun c x => (g x).foldl f c) c
  | [], _ => rfl
  | x :: l, c => by rw [List.flatMap_cons, List.foldl_append, List.foldl_cons, foldl_flatMap' f g l]
theorem filterMap_flatMap' {α β γ : Type} (f : β → Option γ) (g : α → List β) : ∀ (l : List α), (l.flatMap g).filterMap f = l.flatMap fun x => (g x).filterMap f
  | [] => rfl
  | x :: l => by rw [List.flatMap_cons, List.filterMap_append, List.flatMap_cons, filterMap_flatMap' f g l]
theorem dfs_eq : ∀ (n : Nat) (g : Hall) (placed left : List Nat) (found : Found), left.length = n → left.Nodup → (∀ w ∈ left, ∃ b, gv g.waits w = some b ∧ b.kind ∈ g.moulds) →
    dfs n g placed left found = (runs g placed (orders n left)).foldl (pick (·.1)) found
  | 0, g, placed, left, found, hn, _, _ => by
    have : left = [] := List.eq_nil_of_length_eq_zero hn
    subst this
    have e : runs g placed (orders 0 []) = [(over g, placed)] := by
      show [([] : List Nat)].filterMap _ = _
      simp [puts]
    rw [e]
    rfl
  | n + 1, g, placed, left, found, hn, hd, hw => by
    unfold dfs
    by_cases c : (match found with | some f => decide (f.1 ≤ over g) | none => false) = true
    · rw [if_pos c]
      cases found with
      | none => cases c
      | some f =>
        have c : f.1 ≤ over g := of_decide_eq_true c
        exact (pick_keep (·.1) f _ fun x hx => Nat.le_trans c (runs_ge x hx)).symm
    · rw [if_neg c]
      have ne : left ≠ [] := fun z => by rw [z] at hn; cases hn
      rw [if_neg ne]
      have eo : orders (n + 1) left = left.flatMap fun x => (orders n (left.filter fun y => y != x)).map fun r => x :: r := by
        cases left with
        | nil => exact absurd rfl ne
        | cons a l => rfl
      have er : runs g placed (orders (n + 1) left) = left.flatMap fun x => ((orders n (left.filter fun y => y != x)).map fun r => x :: r).filterMap fun r => (puts g r).map fun k => (over k, placed ++ r) := by
        unfold runs
        rw [eo, filterMap_flatMap']
      rw [er, foldl_flatMap']
      refine foldl_congr_mem left found fun fd x hx => ?_
      have ok : ∃ k, puts g [x] = some k := (puts_ok [x] g).mpr ⟨by simp, fun w hw' => by
        have : w = x := by simpa using hw'
        subst this; exact hw _ hx⟩
      obtain ⟨k, ek⟩ := ok
      have ek : (put g x).bind (fun g => some g) = some k := ek
      have ek : put g x = some k := by
        cases q : put g x with
        | none => rw [q] at ek; cases ek
        | some g' => rw [q] at ek; exact ek
      rw [ek]
      show dfs n k (placed ++ [x]) (left.filter fun y => y != x) fd = _
      have kw : ∀ w, gv k.waits w = if x = w then none else gv g.waits w := by
        intro w
        rw [put_eq] at ek
        cases e : gv g.waits x with
        | none => rw [e] at ek; cases ek
        | some b =>
          rw [e] at ek
          cases f : best g b with
          | none => simp [f] at ek
          | some j =>
            simp [f] at ek
            rw [← ek]
            exact gv_set_none g.waits x w
      have km : k.moulds = g.moulds := by
        rw [put_eq] at ek
        cases e : gv g.waits x with
        | none => rw [e] at ek; cases ek
        | some b =>
          rw [e] at ek
          cases f : best g b with
          | none => simp [f] at ek
          | some j =>
            simp [f] at ek
            rw [← ek]
            rfl
      have fl : (left.filter fun y => y != x).length = n := by
        rw [← hd.erase_eq_filter x, List.length_erase_of_mem hx]
        omega
      rw [dfs_eq n k (placed ++ [x]) (left.filter fun y => y != x) fd fl (List.Pairwise.filter _ hd) fun w hw' => by
        obtain ⟨m1, m2⟩ := List.mem_filter.mp hw'
        obtain ⟨b, eb, mb⟩ := hw w m1
        refine ⟨b, ?_, by rw [km]; exact mb⟩
        rw [kw, if_neg (fun z => by rw [z] at m2; simp at m2)]
        exact eb]
      congr 1
      unfold runs
      rw [List.filterMap_map]
      congr 1
      funext r
      show _ = (puts g (x :: r)).map fun k => (over k, placed ++ (x :: r))
      have : puts g (x :: r) = puts k r := by
        show (put g x).bind (fun g => puts g r) = _
        rw [ek]; rfl
      rw [this, List.append_assoc]
      rfl
theorem plan_eq (h : Hall) : plan h = (runs h [] (orders (waiting h).length (waiting h))).foldl (pick (·.1)) none := by
  unfold plan
  exact find_pick (fun p : Nat × List Nat => p.1) _
/-- all that wait have a mould: the plan is what the search finds -/
theorem plan_dfs {h : Hall} (ok : ∀ w ∈ waiting h, ∃ b, gv h.waits w = some b ∧ b.kind ∈ h.moulds) : plan h = dfs (waiting h).length h [] (waiting h) none := by
  rw [plan_eq, dfs_eq _ _ _ _ _ rfl (waiting_nodup h) ok]
/-- one has none: there is no plan -/
theorem plan_none {h : Hall} {w : Nat} {b : Blade} (hw : gv h.waits w = some b) (hb : b.kind ∉ h.moulds) : plan h = none := by
  have e : runs h [] (orders (waiting h).length (waiting h)) = [] := by
    unfold runs
    rw [List.filterMap_eq_nil_iff]
    intro r hr
    obtain ⟨_, m⟩ := orders_mem _ _ r (Nat.le_refl _) hr
    cases q : puts h r with
    | none => rfl
    | some k =>
      obtain ⟨_, z⟩ := (puts_ok r h).mp ⟨k, q⟩
      obtain ⟨b', eb, mb⟩ := z w ((m w).mpr (mem_waiting.mpr ⟨b, hw⟩))
      rw [hw] at eb
      rw [← Option.some.inj eb] at mb
      exact absurd mb hb
  rw [plan_eq, e]
  rfl
/-- a plan can be put -/
theorem plan_some {h : Hall} (ok : ∀ w ∈ waiting h, ∃ b, gv h.waits w = some b ∧ b.kind ∈ h.moulds) : ∃ t l k, plan h = some (t, l) ∧ puts h l = some k ∧ over k = t ∧ l.Nodup ∧ (∀ x, x ∈ l ↔ x ∈ waiting h) := by
  have ne : runs h [] (orders (waiting h).length (waiting h)) ≠ [] := by
    intro e
    unfold runs at e
    rw [List.filterMap_eq_nil_iff] at e
    have : ∃ r, r ∈ orders (waiting h).length (waiting h) := by
      have : ∀ (n : Nat) (l : List Nat), ∃ r, r ∈ orders n l := by
        intro n
        induction n with
        | zero => intro l; exact ⟨[], by simp [orders]⟩
        | succ n ih =>
          intro l
          cases l with
          | nil => exact ⟨[], by simp [orders]⟩
          | cons a l =>
            obtain ⟨r, hr⟩ := ih ((a :: l).filter fun y => y != a)
            exact ⟨a :: r, by unfold orders; exact List.mem_flatMap.mpr ⟨a, by simp, List.mem_map.mpr ⟨r, hr, rfl⟩⟩⟩
      exact this _ _
    obtain ⟨r, hr⟩ := this
    obtain ⟨m1, m2⟩ := orders_mem _ _ r (Nat.le_refl _) hr
    obtain ⟨k, ek⟩ := (puts_ok r h).mpr ⟨m1, fun w hw => ok w ((m2 w).mp hw)⟩
    have := e r hr
    rw [ek] at this
    cases this
  rw [plan_eq]
  cases er : runs h [] (orders (waiting h).length (waiting h)) with
  | nil => exact absurd er ne
  | cons c l =>
    obtain ⟨a, ea, f⟩ := pick_first (fun p : Nat × List Nat => p.1) l c
    obtain ⟨pre, post, ep, _, _⟩ := f
    have ma : a ∈ runs h [] (orders (waiting h).length (waiting h)) := by rw [er, ep]; simp
    obtain ⟨r, hr, e⟩ := List.mem_filterMap.mp ma
    obtain ⟨m1, m2⟩ := orders_mem _ _ r (Nat.le_refl _) hr
    cases q : puts h r with
    | none => rw [q] at e; cases e
    | some k =>
      rw [q] at e
      have e : (over k, [] ++ r) = a := Option.some.inj e
      refine ⟨over k, r, k, ?_, q, rfl, m1, m2⟩
      rw [List.foldl_cons, show pick (fun p : Nat × List Nat => p.1) none c = some c from rfl, ea, ← e]
      rfl
end Bc
set_option Elab.async false
namespace Bc
open Kqv4
/-! ### reading the calls off one list -/
theorem shape_in {p : Int} {nk : Nat × Nat} (h : PyKqv4.shape p = some nk) : 0 ≤ p ∧ p ≤ 20 := by
  unfold PyKqv4.shape at h
  by_cases q : 0 ≤ p ∧ p ≤ 20
  · exact q
  · exfalso
    have n : ∀ k : Int, 0 ≤ k → k ≤ 20 → ¬ p = k := fun k h1 h2 e => q (by omega)
    simp [n] at h
theorem call_fixed {p : Int} {r t : List Int} {n : Nat} {c : List (List Int)} (hs : PyKqv4.shape p = some (n, 0)) (h : PyFlat.call PyKqv4.shape (p :: r) = some (c, t)) : n ≤ r.length ∧ c = [p :: r.take n] ∧ t = r.drop n := by
  unfold PyFlat.call at h
  simp only [hs] at h
  by_cases q : r.length < n
  · rw [if_pos q] at h; cases h
  · rw [if_neg q] at h
    unfold PyFlat.rows at h
    simp at h
    exact ⟨by omega, h.1.symm, h.2.symm⟩
theorem call_row {p : Int} {r t : List Int} {c : List (List Int)} (hs : PyKqv4.shape p = some (0, 1)) (h : PyFlat.call PyKqv4.shape (p :: r) = some (c, t)) :
    ∃ (m : Int) (r' : List Int), r = m :: r' ∧ 0 ≤ m ∧ m.toNat ≤ r'.length ∧ c = [[p], r'.take m.toNat] ∧ t = r'.drop m.toNat := by
  unfold PyFlat.call at h
  simp only [hs] at h
  rw [if_neg (by omega)] at h
  unfold PyFlat.rows at h
  cases r with
  | nil => simp [PyFlat.row] at h
  | cons m r' =>
    simp only [List.drop_zero, PyFlat.row] at h
    by_cases q : 0 ≤ m ∧ m.toNat ≤ r'.length
    · rw [if_pos q] at h
      simp [PyFlat.rows] at h
      exact ⟨m, r', rfl, q.1, q.2, h.1.symm, h.2.symm⟩
    · rw [if_neg q] at h; cases h
theorem calls_cons {f : Nat} {p : Int} {r : List Int} {cs : List (List (List Int))} (h : PyFlat.calls PyKqv4.shape f (p :: r) = some cs) :
    ∃ f' c t cs', f = f' + 1 ∧ PyFlat.call PyKqv4.shape (p :: r) = some (c, t) ∧ PyFlat.calls PyKqv4.shape f' t = some cs' ∧ cs = c :: cs' := by
  cases f with
  | zero => simp [PyFlat.calls] at h
  | succ f =>
    unfold PyFlat.calls at h
    cases e : PyFlat.call PyKqv4.shape (p :: r) with
    | none => rw [e] at h; cases h
    | some ct =>
      obtain ⟨c, t⟩ := ct
      rw [e] at h
      simp only at h
      cases e2 : PyFlat.calls PyKqv4.shape f t with
      | none => rw [e2] at h; cases h
      | some cs' =>
        rw [e2] at h
        exact ⟨f, c, t, cs', rfl, rfl, e2, (Option.some.inj h).symm⟩
theorem calls_nil {f : Nat} {cs : List (List (List Int))} (h : PyFlat.calls PyKqv4.shape f [] = some cs) : cs = [] := by
  cases f <;> simp [PyFlat.calls] at h <;> exact h
/-- a list's first call: its number, what it is given, the rest -/
inductive First : List Int → List (List Int) → Kqv4.Call → List Int → Prop
  | start (a b : Int) (t : List Int) : First (0 :: a :: b :: t) [[0, a, b]] (.start a.toNat b.toNat) t
  | mould (a : Int) (t : List Int) : First (1 :: a :: t) [[1, a]] (.mould a.toNat) t
  | blade (a b : Int) (t : List Int) : First (2 :: a :: b :: t) [[2, a, b]] (.blade a.toNat b.toNat) t
  | drop (a : Int) (t : List Int) : First (3 :: a :: t) [[3, a]] (.drop a.toNat) t
  | best (a : Int) (t : List Int) : First (4 :: a :: t) [[4, a]] (.best a.toNat) t
  | put (a : Int) (t : List Int) : First (5 :: a :: t) [[5, a]] (.put a.toNat) t
  | at_ (a b d : Int) (t : List Int) : First (6 :: a :: b :: d :: t) [[6, a, b, d]] (.at_ a.toNat b.toNat d.toNat) t
  | cancel (a : Int) (t : List Int) : First (7 :: a :: t) [[7, a]] (.cancel a.toNat) t
  | pass (a : Int) (t : List Int) : First (8 :: a :: t) [[8, a]] (.pass a.toNat) t
  | order (m : Int) (r t : List Int) (h0 : 0 ≤ m) (hm : m.toNat = r.length) : First (9 :: m :: (r ++ t)) [[9], r] (.order (r.map Int.toNat)) t
  | plan (t : List Int) : First (10 :: t) [[10]] .plan t
  | follow (t : List Int) : First (11 :: t) [[11]] .follow t
  | over (t : List Int) : First (12 :: t) [[12]] .over t
  | crane (a : Int) (t : List Int) : First (13 :: a :: t) [[13, a]] (.crane a.toNat) t
  | inside (a b : Int) (t : List Int) : First (14 :: a :: b :: t) [[14, a, b]] (.inside a.toNat b.toNat) t
  | freeAt (a : Int) (t : List Int) : First (15 :: a :: t) [[15, a]] (.freeAt a.toNat) t
  | lifts (a : Int) (t : List Int) : First (16 :: a :: t) [[16, a]] (.lifts a.toNat) t
  | idle (a : Int) (t : List Int) : First (17 :: a :: t) [[17, a]] (.idle a.toNat) t
  | job (a : Int) (t : List Int) : First (18 :: a :: t) [[18, a]] (.job a.toNat) t
  | waiting (t : List Int) : First (19 :: t) [[19]] .waiting t
  | state (t : List Int) : First (20 :: t) [[20]] .state t
theorem take1 {r : List Int} (h : 1 ≤ r.length) : ∃ a t, r = a :: t := match r, h with
  | a :: t, _ => ⟨a, t, rfl⟩
theorem take2 {r : List Int} (h : 2 ≤ r.length) : ∃ a b t, r = a :: b :: t := match r, h with
  | a :: b :: t, _ => ⟨a, b, t, rfl⟩
theorem take3 {r : List Int} (h : 3 ≤ r.length) : ∃ a b d t, r = a :: b :: d :: t := match r, h with
  | a :: b :: d :: t, _ => ⟨a, b, d, t, rfl⟩
theorem first_of {p : Int} {r t : List Int} {c : List (List Int)} (h : PyFlat.call PyKqv4.shape (p :: r) = some (c, t)) : ∃ k, First (p :: r) c k t := by
  have hs : ∃ nk, PyKqv4.shape p = some nk := by
    unfold PyFlat.call at h
    cases e : PyKqv4.shape p with
    | none => simp only [e] at h; cases h
    | some nk => exact ⟨nk, rfl⟩
  obtain ⟨nk, hs⟩ := hs
  obtain ⟨h0, h1⟩ := shape_in hs
  have : p = 0 ∨ p = 1 ∨ p = 2 ∨ p = 3 ∨ p = 4 ∨ p = 5 ∨ p = 6 ∨ p = 7 ∨ p = 8 ∨ p = 9 ∨ p = 10 ∨ p = 11 ∨ p = 12 ∨ p = 13 ∨ p = 14 ∨ p = 15 ∨ p = 16 ∨ p = 17 ∨ p = 18 ∨ p = 19 ∨ p = 20 := by omega
  rcases this with e | e | e | e | e | e | e | e | e | e | e | e | e | e | e | e | e | e | e | e | e <;> subst e
  · obtain ⟨q, rfl, rfl⟩ := call_fixed (n := 2) (by rfl) h
    obtain ⟨a, b, t, rfl⟩ := take2 q
    exact ⟨_, First.start a b t⟩
  · obtain ⟨q, rfl, rfl⟩ := call_fixed (n := 1) (by rfl) h
    obtain ⟨a, t, rfl⟩ := take1 q
    exact ⟨_, First.mould a t⟩
  · obtain ⟨q, rfl, rfl⟩ := call_fixed (n := 2) (by rfl) h
    obtain ⟨a, b, t, rfl⟩ := take2 q
    exact ⟨_, First.blade a b t⟩
  · obtain ⟨q, rfl, rfl⟩ := call_fixed (n := 1) (by rfl) h
    obtain ⟨a, t, rfl⟩ := take1 q
    exact ⟨_, First.drop a t⟩
  · obtain ⟨q, rfl, rfl⟩ := call_fixed (n := 1) (by rfl) h
    obtain ⟨a, t, rfl⟩ := take1 q
    exact ⟨_, First.best a t⟩
  · obtain ⟨q, rfl, rfl⟩ := call_fixed (n := 1) (by rfl) h
    obtain ⟨a, t, rfl⟩ := take1 q
    exact ⟨_, First.put a t⟩
  · obtain ⟨q, rfl, rfl⟩ := call_fixed (n := 3) (by rfl) h
    obtain ⟨a, b, d, t, rfl⟩ := take3 q
    exact ⟨_, First.at_ a b d t⟩
  · obtain ⟨q, rfl, rfl⟩ := call_fixed (n := 1) (by rfl) h
    obtain ⟨a, t, rfl⟩ := take1 q
    exact ⟨_, First.cancel a t⟩
  · obtain ⟨q, rfl, rfl⟩ := call_fixed (n := 1) (by rfl) h
    obtain ⟨a, t, rfl⟩ := take1 q
    exact ⟨_, First.pass a t⟩
  · obtain ⟨m, r', rfl, h0, hm, rfl, rfl⟩ := call_row (by rfl) h
    have f := First.order m (r'.take m.toNat) (r'.drop m.toNat) h0 (by rw [List.length_take]; omega)
    rw [List.take_append_drop] at f
    exact ⟨_, f⟩
  · obtain ⟨q, rfl, rfl⟩ := call_fixed (n := 0) (by rfl) h
    exact ⟨_, First.plan _⟩
  · obtain ⟨q, rfl, rfl⟩ := call_fixed (n := 0) (by rfl) h
    exact ⟨_, First.follow _⟩
  · obtain ⟨q, rfl, rfl⟩ := call_fixed (n := 0) (by rfl) h
    exact ⟨_, First.over _⟩
  · obtain ⟨q, rfl, rfl⟩ := call_fixed (n := 1) (by rfl) h
    obtain ⟨a, t, rfl⟩ := take1 q
    exact ⟨_, First.crane a t⟩
  · obtain ⟨q, rfl, rfl⟩ := call_fixed (n := 2) (by rfl) h
    obtain ⟨a, b, t, rfl⟩ := take2 q
    exact ⟨_, First.inside a b t⟩
  · obtain ⟨q, rfl, rfl⟩ := call_fixed (n := 1) (by rfl) h
    obtain ⟨a, t, rfl⟩ := take1 q
    exact ⟨_, First.freeAt a t⟩
  · obtain ⟨q, rfl, rfl⟩ := call_fixed (n := 1) (by rfl) h
    obtain ⟨a, t, rfl⟩ := take1 q
    exact ⟨_, First.lifts a t⟩
  · obtain ⟨q, rfl, rfl⟩ := call_fixed (n := 1) (by rfl) h
    obtain ⟨a, t, rfl⟩ := take1 q
    exact ⟨_, First.idle a t⟩
  · obtain ⟨q, rfl, rfl⟩ := call_fixed (n := 1) (by rfl) h
    obtain ⟨a, t, rfl⟩ := take1 q
    exact ⟨_, First.job a t⟩
  · obtain ⟨q, rfl, rfl⟩ := call_fixed (n := 0) (by rfl) h
    exact ⟨_, First.waiting _⟩
  · obtain ⟨q, rfl, rfl⟩ := call_fixed (n := 0) (by rfl) h
    exact ⟨_, First.state _⟩
/-- the answer of a call that was read -/
theorem First.step {l t : List Int} {c : List (List Int)} {k : Kqv4.Call} (f : First l c k t) (s : Option Hall) : Kqv4Neutral.step s (PyKqv4.whole c) = ((Kqv4.step s k).1, Kqv4Neutral.tell (Kqv4.step s k).2) := by
  cases f <;> rfl
/-- what is due from a state on, for the calls in l -/
def due (s : Option Hall) (cs : List (List (List Int))) : List Int := PyFlat.told (PyFlat.played Kqv4Neutral.step s (cs.map PyKqv4.whole))
theorem due_nil (s : Option Hall) : due s [] = [] := rfl
theorem due_cons {l t : List Int} {c : List (List Int)} {k : Kqv4.Call} (f : First l c k t) (s : Option Hall) (cs : List (List (List Int))) :
    due s (c :: cs) = ((Kqv4Neutral.tell (Kqv4.step s k).2).length : Int) :: Kqv4Neutral.tell (Kqv4.step s k).2 ++ due (Kqv4.step s k).1 cs := by
  unfold due
  rw [List.map_cons]
  show PyFlat.told ((Kqv4Neutral.step s (PyKqv4.whole c)).2 :: PyFlat.played Kqv4Neutral.step (Kqv4Neutral.step s (PyKqv4.whole c)).1 (cs.map PyKqv4.whole)) = _
  rw [f.step s]
  show List.flatMap _ (_ :: _) = _
  rw [List.flatMap_cons]
  rfl
theorem answers_due {l : List Int} {cs : List (List (List Int))} (h : PyFlat.calls PyKqv4.shape l.length l = some cs) : PyKqv4.answers l = due none cs := by
  unfold PyKqv4.answers PyKqv4.calls
  rw [h]
  rfl
/-- what «asked» says -/
theorem asked_calls {l : List Int} (h : PyKqv4.answers_asked l = true) : ∃ cs, PyFlat.calls PyKqv4.shape l.length l = some cs ∧ cs.length ≤ 200 ∧ PyInside.calls PyKqv4.bound cs = true := by
  unfold PyKqv4.answers_asked at h
  cases e : PyFlat.calls PyKqv4.shape l.length l with
  | none => rw [e] at h; cases h
  | some cs =>
    rw [e] at h
    simp only [Bool.and_eq_true] at h
    exact ⟨cs, rfl, of_decide_eq_true h.1.1.1.2, h.1.1.2⟩
/-- an order's row is short -/
theorem order_short {r : List Int} {cs : List (List (List Int))} (h : PyInside.calls PyKqv4.bound ([[9], r] :: cs) = true) : r.length ≤ 60 := by
  unfold PyInside.calls at h
  rw [List.all_cons, Bool.and_eq_true] at h
  have h := h.1
  simp [PyInside.call, PyKqv4.bound, PyInside.each, PyInside.lists] at h
  exact h.1
theorem inside_tail {c : List (List Int)} {cs : List (List (List Int))} (h : PyInside.calls PyKqv4.bound (c :: cs) = true) : PyInside.calls PyKqv4.bound cs = true := by
  unfold PyInside.calls at h ⊢
  rw [List.all_cons, Bool.and_eq_true] at h
  exact h.2
end Bc
set_option Elab.async false
namespace Bc
open Kqv4
/-! ### the best mould, mould by mould -/
def bestTo (h : Hall) (b : Blade) (i : Nat) : Option Job := (((List.range i).filter fun m => h.moulds.getD m 0 == b.kind).map (jobIn h b)).foldl (pick (ends h)) none
theorem bestTo_zero (h : Hall) (b : Blade) : bestTo h b 0 = none := rfl
theorem bestTo_yes {h : Hall} {b : Blade} {i k : Nat} (e : h.moulds[i]? = some k) (c : k = b.kind) : bestTo h b (i + 1) = pick (ends h) (bestTo h b i) (jobIn h b i) := by
  unfold bestTo
  rw [List.range_succ, List.filter_append]
  have q : ([i].filter fun m => h.moulds.getD m 0 == b.kind) = [i] := by
    simp [List.getD_eq_getElem?_getD, e, c]
  rw [q, List.map_append, List.foldl_append]
  rfl
theorem bestTo_no {h : Hall} {b : Blade} {i k : Nat} (e : h.moulds[i]? = some k) (c : ¬ k = b.kind) : bestTo h b (i + 1) = bestTo h b i := by
  unfold bestTo
  rw [List.range_succ, List.filter_append]
  have q : ([i].filter fun m => h.moulds.getD m 0 == b.kind) = [] := by
    simp [List.getD_eq_getElem?_getD, e, c]
  rw [q, List.append_nil]
theorem best_to (h : Hall) (b : Blade) : best h b = bestTo h b h.moulds.length := best_pick h b
theorem pick_lift (h : Hall) (a j : Job) : pick (ends h) (some a) j = if j.lift < a.lift then some j else some a := by
  unfold pick ends
  have : (j.lift + h.lift < a.lift + h.lift) ↔ j.lift < a.lift := by omega
  simp [this]
/-! ### an order, one by one -/
theorem puts_snoc : ∀ (l : List Nat) (h : Hall) (w : Nat), puts h (l ++ [w]) = (puts h l).bind fun g => put g w
  | [], h, w => by
    show (put h w).bind (fun g => some g) = put h w
    cases put h w <;> rfl
  | x :: l, h, w => by
    show (put h x).bind (fun g => puts g (l ++ [w])) = ((put h x).bind fun g => puts g l).bind fun g => put g w
    cases put h x with
    | none => rfl
    | some g => exact puts_snoc l g w
/-- what an order leaves as it was -/
structure Like (g h : Hall) : Prop where
  lift : g.lift = h.lift
  clean : g.clean = h.clean
  minute : g.minute = h.minute
  moulds : g.moulds = h.moulds
  done : g.done = h.done
theorem Like.refl (h : Hall) : Like h h := ⟨rfl, rfl, rfl, rfl, rfl⟩
theorem put_like {g k : Hall} {w : Nat} (e : put g w = some k) : ∃ b j, gv g.waits w = some b ∧ best g b = some j ∧ k = addJ g w j := by
  rw [put_eq] at e
  cases q : gv g.waits w with
  | none => rw [q] at e; cases e
  | some b =>
    rw [q] at e
    cases f : best g b with
    | none => simp [f] at e
    | some j =>
      simp [f] at e
      exact ⟨b, j, rfl, f, e.symm⟩
theorem puts_like : ∀ (l : List Nat) (h g : Hall), puts h l = some g → Like g h ∧ ∀ w, gv g.waits w = if w ∈ l then none else gv h.waits w
  | [], h, g, e => by
    have : h = g := Option.some.inj e
    subst this
    exact ⟨.refl _, fun w => by simp⟩
  | x :: l, h, g, e => by
    have e : (put h x).bind (fun g => puts g l) = some g := e
    cases q : put h x with
    | none => rw [q] at e; cases e
    | some k =>
      rw [q] at e
      obtain ⟨b, j, hb, hj, rfl⟩ := put_like q
      obtain ⟨L, W⟩ := puts_like l _ g e
      refine ⟨⟨L.lift, L.clean, L.minute, L.moulds, L.done⟩, fun w => ?_⟩
      rw [W]
      have z : gv (addJ h x j).waits w = if x = w then none else gv h.waits w := gv_set_none h.waits x w
      rw [z]
      by_cases m : w ∈ l
      · simp [m]
      · by_cases y : w = x
        · subst y; simp
        · simp [m, y]; exact fun z => absurd z.symm y
/-! ### jobs go -/
theorem Sl.gone {l : List (Nat × Job)} {h : Hall} (q : Sl l h.jobs) (t : Nat) : Sl (l.filter fun p => !decide (free h p.2 ≤ t)) (h.jobs.map (left h t)) := by
  refine ⟨List.Pairwise.sublist (List.Sublist.map _ List.filter_sublist) q.nd, fun i x => ?_⟩
  rw [gv_map _ _ rfl, List.mem_filter, q.mem]
  cases e : gv h.jobs i with
  | none => simp [left]
  | some y =>
    show _ ↔ (if free h y ≤ t then none else some y) = some x
    constructor
    · rintro ⟨h1, h2⟩
      have h1 : y = x := Option.some.inj h1
      subst h1
      rw [if_neg (by simpa using h2)]
    · intro z
      split at z
      · cases z
      · have z : y = x := Option.some.inj z
        subst z
        refine ⟨rfl, ?_⟩
        simp
        omega
theorem gone_count {l : List (Nat × Job)} {h : Hall} (q : Sl l h.jobs) (t : Nat) : ((all h).filter fun p => decide (free h p.2 ≤ t)).length = (l.filter fun p => decide (free h p.2 ≤ t)).length :=
  (q.perm.filter _).length_eq.symm
/-! ### the least number that is free -/
theorem slot_next {α : Type} {s : List (Option α)} {n : Nat} (m : ∀ i, i < n → gv s i ≠ none) (h : gv s n ≠ none) : n < slot s := by
  by_cases c : n < slot s
  · exact c
  · exfalso
    have z := slot_none s
    by_cases e : slot s = n
    · rw [e] at z; exact h z
    · exact m _ (by omega) z
/-! ### one mould is used -/
theorem mouldFree_iff {h : Hall} {m a n : Nat} : mouldFree h m a n = true ↔ ∀ j ∈ js h, j.mould = m → a + n ≤ j.from_ ∨ j.from_ + (free h j - j.from_) ≤ a := by
  unfold mouldFree js
  rw [List.all_eq_true]
  constructor
  · intro q j hj e
    obtain ⟨p, hp, rfl⟩ := List.mem_map.mp hj
    have := q p hp
    unfold meet at this
    simp [e] at this
    omega
  · intro q p hp
    by_cases e : p.2.mould = m
    · have := q p.2 (List.mem_map.mpr ⟨p, hp, rfl⟩) e
      unfold meet
      simp [e]
      omega
    · simp [e]
end Bc
set_option Elab.async false
namespace Bc
open Kqv4
theorem prs_vals {α : Type} : ∀ (l : List (Option α)), (prs l).map (·.2) = l.filterMap id
  | [] => rfl
  | a :: l => by
    have ih := prs_vals l
    unfold prs at ih ⊢
    rw [List.map_filterMap] at ih ⊢
    rw [List.length_cons, List.range_succ_eq_map, List.filterMap_cons, List.filterMap_map]
    have e : (fun x : Nat => Option.map (fun x : Nat × α => x.2) (Option.map (fun j => (x, j)) ((a :: l).getD x none))) ∘ Nat.succ = fun x : Nat => Option.map (fun x : Nat × α => x.2) (Option.map (fun j => (x, j)) (l.getD x none)) := by
      funext i
      simp only [Function.comp_apply, Option.map_map]
      rfl
    rw [e, ih]
    cases a <;> rfl
def withJ (h : Hall) (jl : List Job) : Hall := { h with jobs := jl.map some }
theorem js_withJ (h : Hall) (jl : List Job) : js (withJ h jl) = jl := by
  show (prs (jl.map some)).map (·.2) = jl
  rw [prs_vals, List.filterMap_map]
  show jl.filterMap some = jl
  exact List.filterMap_some
theorem sim_withJ {h g : Hall} {jl : List Job} (L : Like g h) (p : jl.Perm (js g)) : Sim (withJ h jl) g :=
  ⟨L.lift.symm, L.clean.symm, L.minute.symm, L.moulds.symm, by rw [js_withJ]; exact p⟩
end Bc
set_option Elab.async false
namespace Bc
open Kqv4
theorem max_int {l : List Nat} {a : Nat} {ns : List Int} {M : Int} (e : ns = (l.map fun (k : Nat) => (k : Int)) ++ [(a : Int)]) (hm : M ∈ ns) (hM : ∀ y ∈ ns, y ≤ M) : M = ((l.foldl max a : Nat) : Int) := by
  subst e
  have h0 : (a : Int) ≤ M := hM a (by simp)
  have e : M = (M.toNat : Int) := by omega
  rw [e]
  refine congrArg Nat.cast (fmax_eq ?_ (by omega) fun x hx => ?_).symm
  · rcases List.mem_append.mp hm with q | q
    · obtain ⟨x, hx, ex⟩ := List.mem_map.mp q
      refine .inr ?_
      have : M.toNat = x := by omega
      rw [this]; exact hx
    · have q : M = a := by simpa using q
      exact .inl (by omega)
  · have := hM x (List.mem_append_left _ (List.mem_map.mpr ⟨x, hx, rfl⟩))
    omega
theorem freeAt_withJ (h : Hall) (jl : List Job) (m : Nat) : freeAt (withJ h jl) m = ((jl.filter fun j => j.mould == m).map fun j => j.lift + h.lift + h.clean).foldl max h.minute := by
  rw [freeAt_eq, js_withJ]; rfl
theorem over_withJ (h : Hall) (jl : List Job) : over (withJ h jl) = (jl.map fun j => j.lift + h.lift).foldl max h.minute := by
  rw [over_eq, js_withJ]; rfl
end Bc
set_option Elab.async false
namespace Bc
open Kqv4
theorem puts_append : ∀ (l m : List Nat) (h : Hall), puts h (l ++ m) = (puts h l).bind fun g => puts g m
  | [], m, h => rfl
  | x :: l, m, h => by
    show (put h x).bind (fun g => puts g (l ++ m)) = ((put h x).bind fun g => puts g l).bind fun g => puts g m
    cases put h x with
    | none => rfl
    | some g => exact puts_append l m g
theorem puts_step {h g gi : Hall} {l : List Nat} {i w : Nat} (hg : puts h l = some g) (hw : l[i]? = some w) (hi : puts h (l.take i) = some gi) :
    ∃ b j, gv h.waits w = some b ∧ best gi b = some j ∧ puts h (l.take (i + 1)) = some (addJ gi w j) ∧ Like gi h ∧ b.kind ∈ h.moulds := by
  obtain ⟨hlt, e⟩ := List.getElem?_eq_some_iff.mp hw
  have e1 : l.take (i + 1) = l.take i ++ [w] := by rw [List.take_succ_eq_append_getElem hlt, e]
  have e2 : l = l.take (i + 1) ++ l.drop (i + 1) := (List.take_append_drop _ _).symm
  rw [e2, puts_append] at hg
  have e3 : puts h (l.take (i + 1)) = put gi w := by rw [e1, puts_snoc, hi]; rfl
  cases q : put gi w with
  | none => rw [e3, q] at hg; cases hg
  | some k =>
    obtain ⟨b, j, hb, hj, rfl⟩ := put_like q
    obtain ⟨L, W⟩ := puts_like _ _ _ hi
    rw [W] at hb
    split at hb
    · cases hb
    · refine ⟨b, j, hb, hj, by rw [e3, q], L, ?_⟩
      rw [← L.moulds]
      by_cases m : b.kind ∈ gi.moulds
      · exact m
      · rw [best_none.mpr m] at hj; cases hj
theorem like_addJ {g h : Hall} (L : Like g h) (w : Nat) (j : Job) : Like (addJ g w j) h := ⟨L.lift, L.clean, L.minute, L.moulds, L.done⟩
theorem js_addJ (g : Hall) (w : Nat) (j : Job) : (js (addJ g w j)).Perm (js g ++ [j]) := js_putIn (h := g) (g := addJ g w j) rfl
end Bc
set_option Elab.async false
namespace Bc
open Kqv4
theorem dfs_cut {n : Nat} {g : Hall} {placed left : List Nat} {f : Nat × List Nat} (h : f.1 ≤ over g) : dfs n g placed left (some f) = some f := by
  cases n with
  | zero =>
    show pick (·.1) (some f) (over g, placed) = some f
    unfold pick
    simp
    omega
  | succ n =>
    unfold dfs
    rw [if_pos (decide_eq_true h)]
theorem dfs_leaf {g : Hall} {placed left : List Nat} {fd : Found} (h : ∀ f, fd = some f → over g < f.1) : dfs 0 g placed left fd = some (over g, placed) := by
  show pick (·.1) fd (over g, placed) = _
  cases fd with
  | none => rfl
  | some f => unfold pick; have := h f rfl; simp [this]
def dstep (n : Nat) (g : Hall) (placed left : List Nat) (fd : Found) (x : Nat) : Found := match put g x with
  | some g' => dfs n g' (placed ++ [x]) (left.filter fun y => y != x) fd
  | none => fd
theorem dfs_loop {n : Nat} {g : Hall} {placed left : List Nat} {fd : Found} (h : ∀ f, fd = some f → over g < f.1) (hl : left ≠ []) : dfs (n + 1) g placed left fd = left.foldl (dstep n g placed left) fd := by
  unfold dfs
  rw [if_neg, if_neg hl]
  · rfl
  · cases fd with
    | none => exact Bool.false_ne_true
    | some f => have := h f rfl; simp; omega
theorem dstep_put {n : Nat} {g : Hall} {placed left : List Nat} {fd : Found} {x : Nat} {b : Blade} {j : Job} (hb : gv g.waits x = some b) (hj : best g b = some j) : dstep n g placed left fd x = dfs n (addJ g x j) (placed ++ [x]) (left.filter fun y => y != x) fd := by
  unfold dstep
  rw [put_eq, hb]
  simp [hj]
theorem filter_len {l : List Nat} {x : Nat} (nd : l.Nodup) (hx : x ∈ l) : (l.filter fun y => y != x).length + 1 = l.length := by
  rw [← nd.erase_eq_filter x, List.length_erase_of_mem hx]
  have := List.length_pos_of_mem hx
  omega
end Bc
set_option Elab.async false
namespace Bc
open Kqv4
theorem waiting_rise (h : Hall) : (waiting h).Pairwise (· < ·) := List.Pairwise.filter _ List.pairwise_lt_range
theorem sorted_waiting {h : Hall} {l : List Nat} {ns : List Int} (p : l.Perm (waiting h)) (q : ns.Perm (l.map fun (k : Nat) => (k : Int))) (s : ns.Pairwise (· ≤ ·)) : ns = (waiting h).map fun (k : Nat) => (k : Int) := by
  refine List.Perm.eq_of_pairwise (le := (· ≤ ·)) (fun a b _ _ h1 h2 => Int.le_antisymm h1 h2) s ?_ (q.trans (p.map _))
  exact List.Pairwise.map (R := (· < ·)) _ (fun a b h => by omega) (waiting_rise h)
end Bc
set_option Elab.async false
namespace Bc
open Kqv4
theorem best_mem {h : Hall} {b : Blade} {j : Job} (e : best h b = some j) : ∃ m, m < h.moulds.length ∧ h.moulds.getD m 0 = b.kind ∧ j = jobIn h b m := by
  unfold best at e
  have m := List.mem_of_find?_eq_some e
  obtain ⟨m, hm, ej⟩ := List.mem_map.mp m
  unfold mouldsOf at hm
  obtain ⟨h1, h2⟩ := List.mem_filter.mp hm
  exact ⟨m, List.mem_range.mp h1, by simpa using h2, ej.symm⟩
theorem best_rise {h : Hall} {b : Blade} {j : Job} (e : best h b = some j) : j.from_ + b.minutes ≤ j.lift ∧ j.blade = b := by
  obtain ⟨m, _, _, rfl⟩ := best_mem e
  exact ⟨(lifts_char h (freeAt h m + b.minutes)).1, rfl⟩
end Bc
set_option Elab.async false
namespace Bc
open Kqv4
theorem mouldFree_all {h : Hall} {jl : List Job} {j : Job} (p : jl.Perm (js h)) (g : ∀ i ∈ js h, i.from_ ≤ i.lift) (hj : j.from_ ≤ j.lift) :
    mouldFree h j.mould j.from_ (free h j - j.from_) = jl.all fun i => !(i.mould == j.mould && decide (i.from_ < j.lift + h.lift + h.clean) && decide (j.from_ < i.lift + h.lift + h.clean)) := by
  rw [Bool.eq_iff_iff, mouldFree_iff, List.all_eq_true]
  unfold free
  constructor
  · intro q i hi
    have hi := p.mem_iff.mp hi
    have gi := g i hi
    by_cases e : i.mould = j.mould
    · have := q i hi e
      simp [e]
      omega
    · simp [e]
  · intro q i hi e
    have gi := g i hi
    have := q i (p.mem_iff.mpr hi)
    simp [e] at this
    omega
end Bc
set_option Elab.async false
namespace Bc
open Kqv4
/-! ### jobs apart: by their lifts, and within a mould -/
def Apart (h : Hall) (a b : Job) : Prop := (a.lift + h.lift ≤ b.lift ∨ b.lift + h.lift ≤ a.lift) ∧ (a.mould = b.mould → free h a ≤ b.from_ ∨ free h b ≤ a.from_)
theorem Apart.symm {h : Hall} {a b : Job} (q : Apart h a b) : Apart h b a := ⟨q.1.symm, fun e => (q.2 e.symm).symm⟩
theorem apart_perm {h : Hall} {l m : List Job} (p : l.Perm m) (q : l.Pairwise (Apart h)) : m.Pairwise (Apart h) := (p.pairwise_iff (fun {_ _} z => Apart.symm z)).mp q
theorem apart_like {g h : Hall} (e1 : g.lift = h.lift) (e2 : g.clean = h.clean) {l : List Job} (q : l.Pairwise (Apart h)) : l.Pairwise (Apart g) :=
  List.Pairwise.imp (fun {a b} z => by unfold Apart free at z ⊢; rw [e1, e2]; exact z) q
theorem apart_new {h : Hall} {t : Nat} {j : Job} (e : j.lift = lifts h t) (m : ∀ x ∈ js h, x.mould = j.mould → free h x ≤ j.from_ ∨ free h j ≤ x.from_) : ∀ x ∈ js h, Apart h x j := fun x hx => by
  refine ⟨?_, m x hx⟩
  have := craneFree_iff.mp (lifts_char h t).2.1 x hx
  rw [← e] at this
  omega
theorem freeAt_ge {h : Hall} {x : Job} {m : Nat} (hx : x ∈ js h) (e : x.mould = m) : free h x ≤ freeAt h m := by
  rw [freeAt_eq]
  exact (fmax_ge _ _).2 _ (List.mem_map.mpr ⟨x, List.mem_filter.mpr ⟨hx, by simp [e]⟩, rfl⟩)
theorem best_apart {h : Hall} {b : Blade} {j : Job} (e : best h b = some j) : ∀ x ∈ js h, Apart h x j := by
  obtain ⟨m, _, _, rfl⟩ := best_mem e
  exact apart_new rfl fun x hx ex => .inl (freeAt_ge hx ex)
theorem free_apart {h : Hall} {j : Job} {t : Nat} (e : j.lift = lifts h t) (g : ∀ i ∈ js h, i.from_ ≤ i.lift) (mf : mouldFree h j.mould j.from_ (free h j - j.from_) = true) : ∀ x ∈ js h, Apart h x j :=
  apart_new e fun x hx ex => by
    have := mouldFree_iff.mp mf x hx ex
    have := g x hx
    unfold free at this ⊢
    unfold free at *
    omega
/-! ### what is found where one at most fits -/
theorem find_one {α : Type} {l m : List (Nat × α)} {p : Nat × α → Bool} (q : l.Perm m) (u : ∀ a ∈ l, ∀ b ∈ l, p a = true → p b = true → a = b) : l.find? p = m.find? p := by
  cases e : l.find? p with
  | none =>
    refine (List.find?_eq_none.mpr fun x hx => ?_).symm
    exact List.find?_eq_none.mp e x (q.mem_iff.mpr hx)
  | some a =>
    have ma := List.mem_of_find?_eq_some e
    have pa := List.find?_some e
    cases f : m.find? p with
    | none => exact absurd pa (List.find?_eq_none.mp f a (q.mem_iff.mp ma))
    | some b => rw [u a ma b (q.mem_iff.mpr (List.mem_of_find?_eq_some f)) pa (List.find?_some f)]
theorem pairwise_two {α : Type} {R : α → α → Prop} (sy : ∀ a b, R a b → R b a) : ∀ {l : List α}, l.Pairwise R → ∀ a ∈ l, ∀ b ∈ l, a = b ∨ R a b
  | [], _, _, h, _, _ => by cases h
  | x :: l, q, a, ha, b, hb => by
    obtain ⟨q1, q2⟩ := List.pairwise_cons.mp q
    rcases List.mem_cons.mp ha with e | e <;> rcases List.mem_cons.mp hb with f | f
    · exact .inl (e.trans f.symm)
    · rw [e]; exact .inr (q1 b f)
    · rw [f]; exact .inr (sy _ _ (q1 a e))
    · exact pairwise_two sy q2 a e b f
theorem pairs_two {h : Hall} (q : (js h).Pairwise (Apart h)) : ∀ a ∈ all h, ∀ b ∈ all h, a = b ∨ Apart h a.2 b.2 := by
  have z : (all h).Pairwise fun a b => Apart h a.2 b.2 := List.Pairwise.of_map (S := Apart h) (f := fun p : Nat × Job => p.2) (fun _ _ z => z) q
  exact pairwise_two (fun _ _ z => Apart.symm z) z
theorem crane_one {h : Hall} {l : List (Nat × Job)} (t : Nat) (q : (js h).Pairwise (Apart h)) (p : l.Perm (all h)) :
    (all h).find? (fun p => decide (p.2.lift ≤ t) && decide (t < p.2.lift + h.lift)) = l.find? fun p => decide (p.2.lift ≤ t) && decide (t < p.2.lift + h.lift) :=
  find_one p.symm fun a ha b hb pa pb => by
    rcases pairs_two q a ha b hb with e | e
    · exact e
    · simp at pa pb
      have := e.1
      omega
theorem inside_one {h : Hall} {l : List (Nat × Job)} (m t : Nat) (q : (js h).Pairwise (Apart h)) (p : l.Perm (all h)) :
    (all h).find? (fun p => p.2.mould == m && decide (p.2.from_ ≤ t) && decide (t < free h p.2)) = l.find? fun p => p.2.mould == m && decide (p.2.from_ ≤ t) && decide (t < free h p.2) :=
  find_one p.symm fun a ha b hb pa pb => by
    rcases pairs_two q a ha b hb with e | e
    · exact e
    · simp at pa pb
      have := e.2 (by omega)
      omega
/-! ### minutes unused -/
def inIv (a : Nat) (p : Nat × Nat) (i : Nat) : Bool := decide (p.1 ≤ a + i) && decide (a + i < p.2)
theorem iv_len (a : Nat) (p : Nat × Nat) : ∀ n, ((List.range n).filter (inIv a p)).length = min p.2 (a + n) - max p.1 a
  | 0 => by simp; omega
  | n + 1 => by
    rw [List.range_succ, List.filter_append, List.length_append, iv_len a p n]
    by_cases c : p.1 ≤ a + n ∧ a + n < p.2
    · rw [show [n].filter (inIv a p) = [n] by simp [inIv, c.1, c.2]]
      show _ + 1 = _
      omega
    · rw [show [n].filter (inIv a p) = [] by simp [inIv]; omega]
      show _ + 0 = _
      omega
theorem filter_split {α : Type} (P Q : α → Bool) : ∀ l : List α, (∀ x ∈ l, P x = true → Q x = true) → (l.filter Q).length = (l.filter fun x => !P x && Q x).length + (l.filter P).length
  | [], _ => rfl
  | x :: l, h => by
    have ih := filter_split P Q l fun y hy => h y (by simp [hy])
    have hx := h x (by simp)
    cases p : P x <;> cases q : Q x <;> simp [p, q] at hx ⊢ <;> omega
theorem unused (a n : Nat) : ∀ l : List (Nat × Nat), l.Pairwise (fun p q => p.2 ≤ q.1 ∨ q.2 ≤ p.1) →
    ((List.range n).filter fun i => l.all fun p => !inIv a p i).length + (l.map fun p => min p.2 (a + n) - max p.1 a).sum = n
  | [], _ => by
    show ((List.range n).filter fun _ => true).length + 0 = n
    rw [List.filter_eq_self.mpr (fun _ _ => rfl)]
    simp
  | p :: l, h => by
    obtain ⟨h1, h2⟩ := List.pairwise_cons.mp h
    have ih := unused a n l h2
    have sp := filter_split (inIv a p) (fun i => l.all fun p => !inIv a p i) (List.range n) fun i _ hi => by
      rw [List.all_eq_true]
      intro q hq
      have := h1 q hq
      simp [inIv] at hi ⊢
      omega
    rw [iv_len] at sp
    simp only [List.all_cons, List.map_cons, List.sum_cons]
    omega
theorem over_ge (h : Hall) : h.minute ≤ over h := by rw [over_eq]; exact (fmax_ge _ _).1
theorem idle_eq {h : Hall} {jl : List Job} (m : Nat) (p : jl.Perm (js h)) (q : (js h).Pairwise (Apart h)) (g : ∀ i ∈ js h, i.from_ ≤ i.lift) :
    (idle h m : Int) = (over h : Int) - h.minute - (((jl.filter fun j => j.mould == m).map fun j => max (min ((j.lift + h.lift + h.clean : Nat) : Int) (over h : Int) - max (j.from_ : Int) (h.minute : Int)) 0)).sum := by
  have pw : ((jl.filter fun j => j.mould == m).map fun j => (j.from_, free h j)).Pairwise (fun p q => p.2 ≤ q.1 ∨ q.2 ≤ p.1) := by
    rw [List.pairwise_map]
    have z : (jl.filter fun j => j.mould == m).Pairwise (Apart h) := List.Pairwise.filter _ (apart_perm p.symm q)
    refine List.Pairwise.imp_of_mem (fun {a b} ha hb r => ?_) z
    have ha := (List.mem_filter.mp ha).2
    have hb := (List.mem_filter.mp hb).2
    simp at ha hb
    exact r.2 (by omega)
  have u := unused h.minute (over h - h.minute) _ pw
  have e1 : idle h m = ((List.range (over h - h.minute)).filter fun i => ((jl.filter fun j => j.mould == m).map fun j => (j.from_, free h j)).all fun p => !inIv h.minute p i).length := by
    unfold idle
    congr 1
    refine List.filter_congr fun i _ => ?_
    rw [Bool.eq_iff_iff, mouldFree_iff, List.all_eq_true]
    constructor
    · intro z x hx
      obtain ⟨j, hj, rfl⟩ := List.mem_map.mp hx
      obtain ⟨h1, h2⟩ := List.mem_filter.mp hj
      have hj := p.mem_iff.mp h1
      have := z j hj (by simpa using h2)
      have := g j hj
      unfold free at *
      simp [inIv]
      omega
    · intro z j hj e
      have w := z (j.from_, free h j) (List.mem_map.mpr ⟨j, List.mem_filter.mpr ⟨p.mem_iff.mpr hj, by simp [e]⟩, rfl⟩)
      have := g j hj
      simp [inIv] at w
      unfold free at *
      omega
  rw [← e1] at u
  have e2 : ∀ l : List Job, (l.map fun j => max (min ((j.lift + h.lift + h.clean : Nat) : Int) (over h : Int) - max (j.from_ : Int) (h.minute : Int)) 0).sum = (((l.map fun j => (j.from_, free h j)).map fun p => min p.2 (h.minute + (over h - h.minute)) - max p.1 h.minute).sum : Nat) := by
    intro l
    induction l with
    | nil => rfl
    | cons j l ih =>
      simp only [List.map_cons, List.sum_cons]
      rw [ih]
      have := over_ge h
      unfold free
      omega
  rw [e2]
  have := over_ge h
  omega
end Bc
set_option Elab.async false
namespace Bc
open Kqv4
theorem apart_sub {h g : Hall} {l : List (Nat × Job)} (hs : Sl l g.jobs) (sub : l.Sublist (prs h.jobs)) (ap : (js h).Pairwise (Apart h)) (el : g.lift = h.lift) (ec : g.clean = h.clean) : (js g).Pairwise (Apart g) :=
  apart_like el ec (apart_perm (js_perm hs) (List.Pairwise.sublist (sub.map _) ap))
theorem apart_drop {h g : Hall} (n : Nat) (e : g.jobs = h.jobs.set n none) (ap : (js h).Pairwise (Apart h)) (el : g.lift = h.lift) (ec : g.clean = h.clean) : (js g).Pairwise (Apart g) :=
  apart_sub (l := (prs h.jobs).filter fun p => p.1 != n) (by rw [e]; exact (sl_prs h.jobs).drop n) List.filter_sublist ap el ec
theorem apart_gone {h : Hall} (t : Nat) (ap : (js h).Pairwise (Apart h)) : (js (gone h t)).Pairwise (Apart (gone h t)) :=
  apart_sub (l := (prs h.jobs).filter fun p => !decide (free h p.2 ≤ t)) (Sl.gone (sl_prs h.jobs) t) List.filter_sublist ap rfl rfl
theorem gone_js {h : Hall} {t : Nat} {j : Job} (hj : j ∈ js (gone h t)) : j ∈ js h := by
  obtain ⟨i, e⟩ := mem_js.mp hj
  have e : gv (h.jobs.map (left h t)) i = some j := e
  rw [gv_map _ _ rfl] at e
  cases q : gv h.jobs i with
  | none => rw [q] at e; cases e
  | some y =>
    rw [q] at e
    have e : (if free h y ≤ t then none else some y) = some j := e
    split at e
    · cases e
    · exact mem_js.mpr ⟨i, by rw [q, e]⟩
theorem apart_add {h : Hall} {n : Nat} {j : Job} (ap : (js h).Pairwise (Apart h)) (hj : ∀ x ∈ js h, Apart h x j) : (js (addJ h n j)).Pairwise (Apart (addJ h n j)) := by
  refine apart_like (h := h) rfl rfl (apart_perm (js_addJ h n j).symm ?_)
  rw [List.pairwise_append]
  exact ⟨ap, by simp, fun a ha b hb => by rw [show b = j by simpa using hb]; exact hj a ha⟩
end Bc
set_option Elab.async false
namespace Bc
open Kqv4
theorem puts_step2 {h g gi : Hall} {l : List Nat} {i w : Nat} (hg : puts h l = some g) (hw : l[i]? = some w) (hi : puts h (l.take i) = some gi) :
    ∃ b j, gv gi.waits w = some b ∧ best gi b = some j ∧ puts h (l.take (i + 1)) = some (addJ gi w j) := by
  obtain ⟨hlt, e⟩ := List.getElem?_eq_some_iff.mp hw
  have e1 : l.take (i + 1) = l.take i ++ [w] := by rw [List.take_succ_eq_append_getElem hlt, e]
  have e2 : l = l.take (i + 1) ++ l.drop (i + 1) := (List.take_append_drop _ _).symm
  rw [e2, puts_append] at hg
  have e3 : puts h (l.take (i + 1)) = put gi w := by rw [e1, puts_snoc, hi]; rfl
  cases q : put gi w with
  | none => rw [e3, q] at hg; cases hg
  | some k =>
    obtain ⟨b, j, hb, hj, rfl⟩ := put_like q
    exact ⟨b, j, hb, hj, by rw [e3, q]⟩
theorem same_len {l m : List Nat} (h1 : l.Nodup) (h2 : m.Nodup) (h : ∀ x, x ∈ l ↔ x ∈ m) : l.length = m.length :=
  Nat.le_antisymm (h1.length_le_of_subset fun x hx => (h x).mp hx) (h2.length_le_of_subset fun x hx => (h x).mpr hx)
end Bc
set_option Elab.async false
namespace Bc
open Kqv4
/-- a call's number, what it is given, the call -/
inductive Ask : Nat → List Int → Call → Prop
  | start (a b : Nat) : Ask 0 [(a : Int), (b : Int)] (.start a b)
  | mould (a : Nat) : Ask 1 [(a : Int)] (.mould a)
  | blade (a b : Nat) : Ask 2 [(a : Int), (b : Int)] (.blade a b)
  | drop (a : Nat) : Ask 3 [(a : Int)] (.drop a)
  | best (a : Nat) : Ask 4 [(a : Int)] (.best a)
  | put (a : Nat) : Ask 5 [(a : Int)] (.put a)
  | at_ (a b d : Nat) : Ask 6 [(a : Int), (b : Int), (d : Int)] (.at_ a b d)
  | cancel (a : Nat) : Ask 7 [(a : Int)] (.cancel a)
  | pass (a : Nat) : Ask 8 [(a : Int)] (.pass a)
  | order (r : List Nat) (h : r.length ≤ 60) : Ask 9 ((r.length : Int) :: r.map fun (k : Nat) => (k : Int)) (.order r)
  | plan : Ask 10 [] .plan
  | follow : Ask 11 [] .follow
  | over : Ask 12 [] .over
  | crane (a : Nat) : Ask 13 [(a : Int)] (.crane a)
  | inside (a b : Nat) : Ask 14 [(a : Int), (b : Int)] (.inside a b)
  | freeAt (a : Nat) : Ask 15 [(a : Int)] (.freeAt a)
  | lifts (a : Nat) : Ask 16 [(a : Int)] (.lifts a)
  | idle (a : Nat) : Ask 17 [(a : Int)] (.idle a)
  | job (a : Nat) : Ask 18 [(a : Int)] (.job a)
  | waiting : Ask 19 [] .waiting
  | state : Ask 20 [] .state
theorem First.ask {l t : List Int} {c : List (List Int)} {k : Kqv4.Call} {cs : List (List (List Int))} (f : First l c k t) (pos : ∀ x ∈ l, 0 ≤ x) (ins : PyInside.calls PyKqv4.bound (c :: cs) = true) : ∃ (num : Nat) (args : List Int), l = (num : Int) :: (args ++ t) ∧ Ask num args k := by
  have nn : ∀ a : Int, a ∈ l → ((a.toNat : Nat) : Int) = a := fun a ha => by have := pos a ha; omega
  cases f with
  | start a b t => have h1 := nn a (by simp); have h2 := nn b (by simp); have := Ask.start a.toNat b.toNat; rw [h1, h2] at this; exact ⟨0, _, rfl, this⟩
  | mould a t => have h1 := nn a (by simp); have := Ask.mould a.toNat; rw [h1] at this; exact ⟨1, _, rfl, this⟩
  | blade a b t => have h1 := nn a (by simp); have h2 := nn b (by simp); have := Ask.blade a.toNat b.toNat; rw [h1, h2] at this; exact ⟨2, _, rfl, this⟩
  | drop a t => have h1 := nn a (by simp); have := Ask.drop a.toNat; rw [h1] at this; exact ⟨3, _, rfl, this⟩
  | best a t => have h1 := nn a (by simp); have := Ask.best a.toNat; rw [h1] at this; exact ⟨4, _, rfl, this⟩
  | put a t => have h1 := nn a (by simp); have := Ask.put a.toNat; rw [h1] at this; exact ⟨5, _, rfl, this⟩
  | at_ a b d t => have h1 := nn a (by simp); have h2 := nn b (by simp); have h3 := nn d (by simp); have := Ask.at_ a.toNat b.toNat d.toNat; rw [h1, h2, h3] at this; exact ⟨6, _, rfl, this⟩
  | cancel a t => have h1 := nn a (by simp); have := Ask.cancel a.toNat; rw [h1] at this; exact ⟨7, _, rfl, this⟩
  | pass a t => have h1 := nn a (by simp); have := Ask.pass a.toNat; rw [h1] at this; exact ⟨8, _, rfl, this⟩
  | order m r t h0 hm =>
    have hs := order_short ins
    have hr : (r.map Int.toNat).map (fun (k : Nat) => (k : Int)) = r := by
      rw [List.map_map]
      have : r.map ((fun (k : Nat) => (k : Int)) ∘ Int.toNat) = r.map id := List.map_congr_left fun x hx => nn x (by simp [hx])
      rw [this, List.map_id]
    have := Ask.order (r.map Int.toNat) (by rw [List.length_map]; exact hs)
    rw [hr, List.length_map] at this
    refine ⟨9, _, ?_, this⟩
    have : m = (r.length : Int) := by omega
    rw [this]
    rfl
  | plan t => exact ⟨10, _, rfl, .plan⟩
  | follow t => exact ⟨11, _, rfl, .follow⟩
  | over t => exact ⟨12, _, rfl, .over⟩
  | crane a t => have h1 := nn a (by simp); have := Ask.crane a.toNat; rw [h1] at this; exact ⟨13, _, rfl, this⟩
  | inside a b t => have h1 := nn a (by simp); have h2 := nn b (by simp); have := Ask.inside a.toNat b.toNat; rw [h1, h2] at this; exact ⟨14, _, rfl, this⟩
  | freeAt a t => have h1 := nn a (by simp); have := Ask.freeAt a.toNat; rw [h1] at this; exact ⟨15, _, rfl, this⟩
  | lifts a t => have h1 := nn a (by simp); have := Ask.lifts a.toNat; rw [h1] at this; exact ⟨16, _, rfl, this⟩
  | idle a t => have h1 := nn a (by simp); have := Ask.idle a.toNat; rw [h1] at this; exact ⟨17, _, rfl, this⟩
  | job a t => have h1 := nn a (by simp); have := Ask.job a.toNat; rw [h1] at this; exact ⟨18, _, rfl, this⟩
  | waiting t => exact ⟨19, _, rfl, .waiting⟩
  | state t => exact ⟨20, _, rfl, .state⟩
theorem asked_short {l : List Int} (h : PyKqv4.answers_asked l = true) : (PyKqv4.answers l).length ≤ 10000000 := by
  unfold PyKqv4.answers_asked at h
  cases e : PyFlat.calls PyKqv4.shape l.length l with
  | none => rw [e] at h; cases h
  | some cs =>
    rw [e] at h
    simp only [Bool.and_eq_true] at h
    exact of_decide_eq_true h.2
end Bc
set_option Elab.async false
set_option linter.all false
set_option maxRecDepth 100000
set_option maxHeartbeats 2000000
namespace Bp
open PySem PySem.Spec PyProof.Rows L2 Bl
def top (i : Nat) : Stmt := PySem.Challenge.pw_bladecrane_s01_answers.main.body.getD i (.Pass ⟨0, 0, 0, 0⟩)
abbrev s_Blade_init : Stmt := inClass (top 11) 0
abbrev s_Job_init : Stmt := inClass (top 12) 0
abbrev s_Works_init : Stmt := inClass (top 13) 0
abbrev s_Works_make_empty : Stmt := inClass (top 13) 1
abbrev s_is_mould : Stmt := top 14
abbrev s_all_jobs : Stmt := top 15
abbrev s_least_free_number : Stmt := top 16
abbrev s_add_waiting : Stmt := top 17
abbrev s_make_job : Stmt := top 18
abbrev s_make_waiting : Stmt := top 19
abbrev s_first_lift : Stmt := top 21
abbrev s_free_at_last : Stmt := top 22
abbrev s_job_from : Stmt := top 23
abbrev s_mould_is_used : Stmt := top 24
abbrev s_has_mould : Stmt := top 25
abbrev s_best_job : Stmt := top 26
abbrev s_last_out : Stmt := top 27
abbrev s_end_of_order : Stmt := top 29
abbrev s_best_order : Stmt := top 30
abbrev s_better_order : Stmt := top 31
abbrev s_tell_over : Stmt := top 45
abbrev s_tell_crane : Stmt := top 46
abbrev s_part_of_job : Stmt := top 47
abbrev s_tell_inside : Stmt := top 48
abbrev s_tell_free_at : Stmt := top 49
abbrev s_tell_lifts : Stmt := top 50
abbrev s_count_used : Stmt := top 51
abbrev s_tell_idle : Stmt := top 52
abbrev s_tell_job : Stmt := top 53
abbrev s_tell_waiting : Stmt := top 54
abbrev s_tell_state : Stmt := top 55
abbrev s_start_anew : Stmt := top 58
abbrev s_add_mould : Stmt := top 59
abbrev s_add_blade : Stmt := top 60
abbrev s_drop_blade : Stmt := top 61
abbrev s_tell_best : Stmt := top 62
abbrev s_put_into_best : Stmt := top 63
abbrev s_put_blade : Stmt := top 64
abbrev s_put_blade_at : Stmt := top 65
abbrev s_cancel_job : Stmt := top 66
abbrev s_pass_by : Stmt := top 67
abbrev s_can_be_put : Stmt := top 68
abbrev s_tell_order : Stmt := top 69
abbrev s_all_can_be_put : Stmt := top 70
abbrev s_tell_plan : Stmt := top 71
abbrev s_follow_plan : Stmt := top 72
abbrev s_count_given : Stmt := top 77
abbrev s_reply_to : Stmt := top 78
abbrev s_answers : Stmt := top 80
structure Tx (K : PySem.W.Frag) (mg : Str → Option Value) where
  Blade : Cl K mg "Blade"
  n_Blade_kind : NoAttr K Blade.C "kind"
  n_Blade_minutes : NoAttr K Blade.C "minutes"
  Job : Cl K mg "Job"
  n_Job_blade : NoAttr K Job.C "blade"
  n_Job_mould : NoAttr K Job.C "mould"
  n_Job_begin : NoAttr K Job.C "begin"
  n_Job_ready : NoAttr K Job.C "ready"
  n_Job_lifted : NoAttr K Job.C "lifted"
  n_Job_out : NoAttr K Job.C "out"
  n_Job_free : NoAttr K Job.C "free"
  Works : Cl K mg "Works"
  n_Works_started : NoAttr K Works.C "started"
  n_Works_lift : NoAttr K Works.C "lift"
  n_Works_clean : NoAttr K Works.C "clean"
  n_Works_minute : NoAttr K Works.C "minute"
  n_Works_moulds : NoAttr K Works.C "moulds"
  n_Works_waiting : NoAttr K Works.C "waiting"
  n_Works_jobs : NoAttr K Works.C "jobs"
  n_Works_done : NoAttr K Works.C "done"
  Blade_init : Md K Blade.C "__init__" "Blade.__init__" s_Blade_init ["self", "kind", "minutes"]
  Job_init : Md K Job.C "__init__" "Job.__init__" s_Job_init ["self", "blade", "mould", "begin", "lifted", "out", "free"]
  Works_init : Md K Works.C "__init__" "Works.__init__" s_Works_init ["self"]
  Works_make_empty : Md K Works.C "make_empty" "Works.make_empty" s_Works_make_empty ["self", "lift", "clean"]
  is_mould : Dn K mg "is_mould" s_is_mould ["works", "number"]
  all_jobs : Dn K mg "all_jobs" s_all_jobs ["works"]
  least_free_number : Dn K mg "least_free_number" s_least_free_number ["taken"]
  add_waiting : Dn K mg "add_waiting" s_add_waiting ["works", "blade"]
  make_job : Dn K mg "make_job" s_make_job ["works", "waiting_number", "job"]
  make_waiting : Dn K mg "make_waiting" s_make_waiting ["works", "job_number"]
  first_lift : Dn K mg "first_lift" s_first_lift ["works", "jobs", "minute"]
  free_at_last : Dn K mg "free_at_last" s_free_at_last ["works", "jobs", "mould"]
  job_from : Dn K mg "job_from" s_job_from ["works", "jobs", "blade", "mould", "begin"]
  mould_is_used : Dn K mg "mould_is_used" s_mould_is_used ["jobs", "wanted"]
  has_mould : Dn K mg "has_mould" s_has_mould ["works", "blade"]
  best_job : Dn K mg "best_job" s_best_job ["works", "jobs", "blade"]
  last_out : Dn K mg "last_out" s_last_out ["works", "jobs"]
  end_of_order : Dn K mg "end_of_order" s_end_of_order ["works", "order"]
  best_order : Dn K mg "best_order" s_best_order ["works"]
  better_order : Dn K mg "better_order" s_better_order ["works", "jobs", "placed", "left", "found"]
  tell_over : Dn K mg "tell_over" s_tell_over ["works", "given"]
  tell_crane : Dn K mg "tell_crane" s_tell_crane ["works", "given"]
  part_of_job : Dn K mg "part_of_job" s_part_of_job ["job", "minute"]
  tell_inside : Dn K mg "tell_inside" s_tell_inside ["works", "given"]
  tell_free_at : Dn K mg "tell_free_at" s_tell_free_at ["works", "given"]
  tell_lifts : Dn K mg "tell_lifts" s_tell_lifts ["works", "given"]
  count_used : Dn K mg "count_used" s_count_used ["jobs", "mould", "begin", "end"]
  tell_idle : Dn K mg "tell_idle" s_tell_idle ["works", "given"]
  tell_job : Dn K mg "tell_job" s_tell_job ["works", "given"]
  tell_waiting : Dn K mg "tell_waiting" s_tell_waiting ["works", "given"]
  tell_state : Dn K mg "tell_state" s_tell_state ["works", "given"]
  start_anew : Dn K mg "start_anew" s_start_anew ["works", "given"]
  add_mould : Dn K mg "add_mould" s_add_mould ["works", "given"]
  add_blade : Dn K mg "add_blade" s_add_blade ["works", "given"]
  drop_blade : Dn K mg "drop_blade" s_drop_blade ["works", "given"]
  tell_best : Dn K mg "tell_best" s_tell_best ["works", "given"]
  put_into_best : Dn K mg "put_into_best" s_put_into_best ["works", "number"]
  put_blade : Dn K mg "put_blade" s_put_blade ["works", "given"]
  put_blade_at : Dn K mg "put_blade_at" s_put_blade_at ["works", "given"]
  cancel_job : Dn K mg "cancel_job" s_cancel_job ["works", "given"]
  pass_by : Dn K mg "pass_by" s_pass_by ["works", "given"]
  can_be_put : Dn K mg "can_be_put" s_can_be_put ["works", "number"]
  tell_order : Dn K mg "tell_order" s_tell_order ["works", "given"]
  all_can_be_put : Dn K mg "all_can_be_put" s_all_can_be_put ["works"]
  tell_plan : Dn K mg "tell_plan" s_tell_plan ["works", "given"]
  follow_plan : Dn K mg "follow_plan" s_follow_plan ["works", "given"]
  count_given : Dn K mg "count_given" s_count_given ["calls", "place"]
  reply_to : Dn K mg "reply_to" s_reply_to ["works", "number", "given"]
  answers : Dn K mg "answers" s_answers ["calls"]
  g_LONGEST_LIFT : GlI mg "LONGEST_LIFT" 60
  g_LONGEST_CLEAN : GlI mg "LONGEST_CLEAN" 60
  g_HIGHEST_KIND : GlI mg "HIGHEST_KIND" 3
  g_LONGEST_IN_MOULD : GlI mg "LONGEST_IN_MOULD" 200
  g_MOST_MOULDS : GlI mg "MOST_MOULDS" 4
  g_MOST_WAITING : GlI mg "MOST_WAITING" 5
  g_MOST_JOBS : GlI mg "MOST_JOBS" 12
  g_FARTHEST_AHEAD : GlI mg "FARTHEST_AHEAD" 300
  g_LONGEST_PASS : GlI mg "LONGEST_PASS" 1000
  g_LAST_MINUTE : GlI mg "LAST_MINUTE" 100000
  g_NONE_SUCH : GlI mg "NONE_SUCH" (-2)
  g_NOT_STARTED : GlI mg "NOT_STARTED" (-11)
  g_BEGUN : GlI mg "BEGUN" (-16)
  g_IN_USE : GlI mg "IN_USE" (-17)
  g_OUT_OF_RANGE : GlI mg "OUT_OF_RANGE" (-22)
  g_FULL : GlI mg "FULL" (-28)
  g_NOT_POSSIBLE : GlI mg "NOT_POSSIBLE" (-33)
  g_NOT_IN_USE : GlI mg "NOT_IN_USE" (-33)
  g_NOT_READY : GlI mg "NOT_READY" 0
  g_WAITS_FOR_CRANE : GlI mg "WAITS_FOR_CRANE" 1
  g_BEING_LIFTED : GlI mg "BEING_LIFTED" 2
  g_BEING_CLEANED : GlI mg "BEING_CLEANED" 3
  g_START : GlI mg "START" 0
  g_ORDER : GlI mg "ORDER" 9
  t_TELLINGS : GlT K mg "TELLINGS" [.ref tell_over.f, .ref tell_crane.f, .ref tell_inside.f, .ref tell_free_at.f, .ref tell_lifts.f, .ref tell_idle.f, .ref tell_job.f, .ref tell_waiting.f, .ref tell_state.f]
  t_REPLIES : GlT K mg "REPLIES" [.ref start_anew.f, .ref add_mould.f, .ref add_blade.f, .ref drop_blade.f, .ref tell_best.f, .ref put_blade.f, .ref put_blade_at.f, .ref cancel_job.f, .ref pass_by.f, .ref tell_order.f, .ref tell_plan.f, .ref follow_plan.f]
  t_GIVEN_COUNTS : GlT K mg "GIVEN_COUNTS" [.int 2, .int 1, .int 2, .int 1, .int 1, .int 1, .int 3, .int 1, .int 1, .int 0, .int 0, .int 0, .int 0, .int 1, .int 2, .int 1, .int 1, .int 1, .int 1, .int 0, .int 0]
  b_all : mg "all" = none
  b_enumerate : mg "enumerate" = none
  b_len : mg "len" = none
  b_list : mg "list" = none
  b_max : mg "max" = none
  b_min : mg "min" = none
  b_set : mg "set" = none
  b_sorted : mg "sorted" = none
  b_sum : mg "sum" = none
theorem sc_Blade_init : FnScope ["self", "kind", "minutes"] ["self", "kind", "minutes"] (defScope s_Blade_init) := ⟨rfl, rfl, rfl, by decide +kernel, rfl, by decide +kernel, by decide +kernel⟩
theorem sc_Job_init : FnScope ["self", "blade", "mould", "begin", "lifted", "out", "free"] ["self", "blade", "mould", "begin", "lifted", "out", "free"] (defScope s_Job_init) := ⟨rfl, rfl, rfl, by decide +kernel, rfl, by decide +kernel, by decide +kernel⟩
theorem sc_Works_init : FnScope ["self"] ["self"] (defScope s_Works_init) := ⟨rfl, rfl, rfl, by decide +kernel, rfl, by decide +kernel, by decide +kernel⟩
theorem sc_Works_make_empty : FnScope ["self", "lift", "clean"] ["self", "lift", "clean"] (defScope s_Works_make_empty) := ⟨rfl, rfl, rfl, by decide +kernel, rfl, by decide +kernel, by decide +kernel⟩
theorem sc_is_mould : FnScope ["works", "number"] ["works", "number"] (defScope s_is_mould) := ⟨rfl, rfl, rfl, by decide +kernel, rfl, by decide +kernel, by decide +kernel⟩
theorem sc_all_jobs : FnScope ["works"] ["works"] (defScope s_all_jobs) := ⟨rfl, rfl, rfl, by decide +kernel, rfl, by decide +kernel, by decide +kernel⟩
theorem sc_least_free_number : FnScope ["taken", "number"] ["taken"] (defScope s_least_free_number) := ⟨rfl, rfl, rfl, by decide +kernel, rfl, by decide +kernel, by decide +kernel⟩
theorem sc_add_waiting : FnScope ["works", "blade", "number"] ["works", "blade"] (defScope s_add_waiting) := ⟨rfl, rfl, rfl, by decide +kernel, rfl, by decide +kernel, by decide +kernel⟩
theorem sc_make_job : FnScope ["works", "waiting_number", "job", "number"] ["works", "waiting_number", "job"] (defScope s_make_job) := ⟨rfl, rfl, rfl, by decide +kernel, rfl, by decide +kernel, by decide +kernel⟩
theorem sc_make_waiting : FnScope ["works", "job_number", "job"] ["works", "job_number"] (defScope s_make_waiting) := ⟨rfl, rfl, rfl, by decide +kernel, rfl, by decide +kernel, by decide +kernel⟩
theorem sc_first_lift : FnScope ["works", "jobs", "minute", "first", "taken", "job"] ["works", "jobs", "minute"] (defScope s_first_lift) := ⟨rfl, rfl, rfl, by decide +kernel, rfl, by decide +kernel, by decide +kernel⟩
theorem sc_free_at_last : FnScope ["works", "jobs", "mould", "job"] ["works", "jobs", "mould"] (defScope s_free_at_last) := ⟨rfl, rfl, rfl, by decide +kernel, rfl, by decide +kernel, by decide +kernel⟩
theorem sc_job_from : FnScope ["works", "jobs", "blade", "mould", "begin", "lifted", "out"] ["works", "jobs", "blade", "mould", "begin"] (defScope s_job_from) := ⟨rfl, rfl, rfl, by decide +kernel, rfl, by decide +kernel, by decide +kernel⟩
theorem sc_mould_is_used : FnScope ["jobs", "wanted", "job"] ["jobs", "wanted"] (defScope s_mould_is_used) := ⟨rfl, rfl, rfl, by decide +kernel, rfl, by decide +kernel, by decide +kernel⟩
theorem sc_has_mould : FnScope ["works", "blade"] ["works", "blade"] (defScope s_has_mould) := ⟨rfl, rfl, rfl, by decide +kernel, rfl, by decide +kernel, by decide +kernel⟩
theorem sc_best_job : FnScope ["works", "jobs", "blade", "best", "mould", "kind", "job"] ["works", "jobs", "blade"] (defScope s_best_job) := ⟨rfl, rfl, rfl, by decide +kernel, rfl, by decide +kernel, by decide +kernel⟩
theorem sc_last_out : FnScope ["works", "jobs", "job"] ["works", "jobs"] (defScope s_last_out) := ⟨rfl, rfl, rfl, by decide +kernel, rfl, by decide +kernel, by decide +kernel⟩
theorem sc_end_of_order : FnScope ["works", "order", "jobs", "number"] ["works", "order"] (defScope s_end_of_order) := ⟨rfl, rfl, rfl, by decide +kernel, rfl, by decide +kernel, by decide +kernel⟩
theorem sc_best_order : FnScope ["works"] ["works"] (defScope s_best_order) := ⟨rfl, rfl, rfl, by decide +kernel, rfl, by decide +kernel, by decide +kernel⟩
theorem sc_better_order : FnScope ["works", "jobs", "placed", "left", "found", "end", "number", "job", "others", "other"] ["works", "jobs", "placed", "left", "found"] (defScope s_better_order) := ⟨rfl, rfl, rfl, by decide +kernel, rfl, by decide +kernel, by decide +kernel⟩
theorem sc_tell_over : FnScope ["works", "given"] ["works", "given"] (defScope s_tell_over) := ⟨rfl, rfl, rfl, by decide +kernel, rfl, by decide +kernel, by decide +kernel⟩
theorem sc_tell_crane : FnScope ["works", "given", "minute", "number", "job"] ["works", "given"] (defScope s_tell_crane) := ⟨rfl, rfl, rfl, by decide +kernel, rfl, by decide +kernel, by decide +kernel⟩
theorem sc_part_of_job : FnScope ["job", "minute"] ["job", "minute"] (defScope s_part_of_job) := ⟨rfl, rfl, rfl, by decide +kernel, rfl, by decide +kernel, by decide +kernel⟩
theorem sc_tell_inside : FnScope ["works", "given", "mould", "minute", "number", "job"] ["works", "given"] (defScope s_tell_inside) := ⟨rfl, rfl, rfl, by decide +kernel, rfl, by decide +kernel, by decide +kernel⟩
theorem sc_tell_free_at : FnScope ["works", "given", "mould"] ["works", "given"] (defScope s_tell_free_at) := ⟨rfl, rfl, rfl, by decide +kernel, rfl, by decide +kernel, by decide +kernel⟩
theorem sc_tell_lifts : FnScope ["works", "given", "minute"] ["works", "given"] (defScope s_tell_lifts) := ⟨rfl, rfl, rfl, by decide +kernel, rfl, by decide +kernel, by decide +kernel⟩
theorem sc_count_used : FnScope ["jobs", "mould", "begin", "end", "job"] ["jobs", "mould", "begin", "end"] (defScope s_count_used) := ⟨rfl, rfl, rfl, by decide +kernel, rfl, by decide +kernel, by decide +kernel⟩
theorem sc_tell_idle : FnScope ["works", "given", "mould", "jobs", "end"] ["works", "given"] (defScope s_tell_idle) := ⟨rfl, rfl, rfl, by decide +kernel, rfl, by decide +kernel, by decide +kernel⟩
theorem sc_tell_job : FnScope ["works", "given", "number", "job"] ["works", "given"] (defScope s_tell_job) := ⟨rfl, rfl, rfl, by decide +kernel, rfl, by decide +kernel, by decide +kernel⟩
theorem sc_tell_waiting : FnScope ["works", "given"] ["works", "given"] (defScope s_tell_waiting) := ⟨rfl, rfl, rfl, by decide +kernel, rfl, by decide +kernel, by decide +kernel⟩
theorem sc_tell_state : FnScope ["works", "given"] ["works", "given"] (defScope s_tell_state) := ⟨rfl, rfl, rfl, by decide +kernel, rfl, by decide +kernel, by decide +kernel⟩
theorem sc_start_anew : FnScope ["works", "given", "lift", "clean"] ["works", "given"] (defScope s_start_anew) := ⟨rfl, rfl, rfl, by decide +kernel, rfl, by decide +kernel, by decide +kernel⟩
theorem sc_add_mould : FnScope ["works", "given", "kind"] ["works", "given"] (defScope s_add_mould) := ⟨rfl, rfl, rfl, by decide +kernel, rfl, by decide +kernel, by decide +kernel⟩
theorem sc_add_blade : FnScope ["works", "given", "kind", "minutes"] ["works", "given"] (defScope s_add_blade) := ⟨rfl, rfl, rfl, by decide +kernel, rfl, by decide +kernel, by decide +kernel⟩
theorem sc_drop_blade : FnScope ["works", "given", "number", "blade"] ["works", "given"] (defScope s_drop_blade) := ⟨rfl, rfl, rfl, by decide +kernel, rfl, by decide +kernel, by decide +kernel⟩
theorem sc_tell_best : FnScope ["works", "given", "number", "blade", "job"] ["works", "given"] (defScope s_tell_best) := ⟨rfl, rfl, rfl, by decide +kernel, rfl, by decide +kernel, by decide +kernel⟩
theorem sc_put_into_best : FnScope ["works", "number", "job"] ["works", "number"] (defScope s_put_into_best) := ⟨rfl, rfl, rfl, by decide +kernel, rfl, by decide +kernel, by decide +kernel⟩
theorem sc_put_blade : FnScope ["works", "given", "number", "job_number", "job"] ["works", "given"] (defScope s_put_blade) := ⟨rfl, rfl, rfl, by decide +kernel, rfl, by decide +kernel, by decide +kernel⟩
theorem sc_put_blade_at : FnScope ["works", "given", "number", "mould", "begin", "blade", "jobs", "job"] ["works", "given"] (defScope s_put_blade_at) := ⟨rfl, rfl, rfl, by decide +kernel, rfl, by decide +kernel, by decide +kernel⟩
theorem sc_cancel_job : FnScope ["works", "given", "number"] ["works", "given"] (defScope s_cancel_job) := ⟨rfl, rfl, rfl, by decide +kernel, rfl, by decide +kernel, by decide +kernel⟩
theorem sc_pass_by : FnScope ["works", "given", "minutes", "number"] ["works", "given"] (defScope s_pass_by) := ⟨rfl, rfl, rfl, by decide +kernel, rfl, by decide +kernel, by decide +kernel⟩
theorem sc_can_be_put : FnScope ["works", "number"] ["works", "number"] (defScope s_can_be_put) := ⟨rfl, rfl, rfl, by decide +kernel, rfl, by decide +kernel, by decide +kernel⟩
theorem sc_tell_order : FnScope ["works", "given", "order", "number"] ["works", "given"] (defScope s_tell_order) := ⟨rfl, rfl, rfl, by decide +kernel, rfl, by decide +kernel, by decide +kernel⟩
theorem sc_all_can_be_put : FnScope ["works", "number"] ["works"] (defScope s_all_can_be_put) := ⟨rfl, rfl, rfl, by decide +kernel, rfl, by decide +kernel, by decide +kernel⟩
theorem sc_tell_plan : FnScope ["works", "given", "found"] ["works", "given"] (defScope s_tell_plan) := ⟨rfl, rfl, rfl, by decide +kernel, rfl, by decide +kernel, by decide +kernel⟩
theorem sc_follow_plan : FnScope ["works", "given", "found", "number"] ["works", "given"] (defScope s_follow_plan) := ⟨rfl, rfl, rfl, by decide +kernel, rfl, by decide +kernel, by decide +kernel⟩
theorem sc_count_given : FnScope ["calls", "place", "number"] ["calls", "place"] (defScope s_count_given) := ⟨rfl, rfl, rfl, by decide +kernel, rfl, by decide +kernel, by decide +kernel⟩
theorem sc_reply_to : FnScope ["works", "number", "given", "reply"] ["works", "number", "given"] (defScope s_reply_to) := ⟨rfl, rfl, rfl, by decide +kernel, rfl, by decide +kernel, by decide +kernel⟩
theorem sc_answers : FnScope ["calls", "works", "told", "place", "behind", "numbers"] ["calls"] (defScope s_answers) := ⟨rfl, rfl, rfl, by decide +kernel, rfl, by decide +kernel, by decide +kernel⟩
/-! ### the objects -/
def bladeF (b : Kqv4.Blade) : List (Str × V) := [("kind", .int b.kind), ("minutes", .int b.minutes)]
def jobF (L Cn : Nat) (ba : Addr) (j : Kqv4.Job) : List (Str × V) :=
  [("blade", .ref ba), ("mould", .int j.mould), ("begin", .int j.from_), ("ready", .int (j.from_ + j.blade.minutes : Nat)), ("lifted", .int j.lift), ("out", .int (j.lift + L : Nat)), ("free", .int (j.lift + L + Cn : Nat))]
def worksF (st : Bool) (h : Kqv4.Hall) (lm dw dj : Addr) : List (Str × V) :=
  [("started", .bl st), ("lift", .int h.lift), ("clean", .int h.clean), ("minute", .int h.minute), ("moulds", .ref lm), ("waiting", .ref dw), ("jobs", .ref dj), ("done", .int h.done)]
section
variable {K : PySem.W.Frag} {mg : Str → Option Value} (T : Tx K mg)
def BladeAt (H : Hp) (a : Addr) (b : Kqv4.Blade) : Prop := ∃ dx, H a = some (.ins T.Blade.C dx (bladeF b))
def JobAt (L Cn : Nat) (H : Hp) (a : Addr) (j : Kqv4.Job) : Prop := ∃ dx ba, H a = some (.ins T.Job.C dx (jobF L Cn ba j)) ∧ BladeAt T H ba j.blade
/-- what of the works a reader asks: its numbers and its moulds -/
structure Cr (H : Hp) (p : Addr) (h : Kqv4.Hall) : Prop where
  ex : ∃ st dx lm dw dj, H p = some (.ins T.Works.C dx (worksF st h lm dw dj)) ∧ H lm = some (.lst (h.moulds.map fun (k : Nat) => V.int k))
/-- a list of jobs -/
def JobsAt (h : Kqv4.Hall) (H : Hp) (q : Addr) (jl : List Kqv4.Job) : Prop := ∃ as : List Addr, H q = some (.lst (as.map V.ref)) ∧ Paired (JobAt T h.lift h.clean H) as jl
variable {T}
theorem BladeAt.mono {H H' : Hp} (s : Same H H') {a : Addr} {b : Kqv4.Blade} (h : BladeAt T H a b) : BladeAt T H' a b := let ⟨dx, e⟩ := h; ⟨dx, s _ _ e⟩
theorem JobAt.mono {H H' : Hp} (s : Same H H') {L Cn : Nat} {a : Addr} {j : Kqv4.Job} (h : JobAt T L Cn H a j) : JobAt T L Cn H' a j := let ⟨dx, ba, e, q⟩ := h; ⟨dx, ba, s _ _ e, q.mono s⟩
theorem Cr.mono {H H' : Hp} (s : Same H H') {p : Addr} {h : Kqv4.Hall} (c : Cr T H p h) : Cr T H' p h := let ⟨st, dx, lm, dw, dj, e, m⟩ := c.ex; ⟨st, dx, lm, dw, dj, s _ _ e, s _ _ m⟩
theorem paired_mono {α β : Type} {R R' : α → β → Prop} (f : ∀ a b, R a b → R' a b) : ∀ {l : List α} {m : List β}, Paired R l m → Paired R' l m
  | _, _, .nil => .nil
  | _, _, .cons r t => .cons (f _ _ r) (paired_mono f t)
theorem JobsAt.mono {H H' : Hp} (s : Same H H') {h : Kqv4.Hall} {q : Addr} {jl : List Kqv4.Job} (x : JobsAt T h H q jl) : JobsAt T h H' q jl := let ⟨as, e, r⟩ := x; ⟨as, s _ _ e, paired_mono (fun _ _ z => z.mono s) r⟩
end
/-! ### fields -/
section
variable {K : PySem.W.Frag} {mg : Str → Option Value} {T : Tx K mg}
theorem f_works_started (st h lm dw dj) : (worksF st h lm dw dj).lookup ("started" : Str) = some (.bl st) := rfl
theorem f_works_lift (st h lm dw dj) : (worksF st h lm dw dj).lookup ("lift" : Str) = some (.int h.lift) := rfl
theorem f_works_clean (st h lm dw dj) : (worksF st h lm dw dj).lookup ("clean" : Str) = some (.int h.clean) := rfl
theorem f_works_minute (st h lm dw dj) : (worksF st h lm dw dj).lookup ("minute" : Str) = some (.int h.minute) := rfl
theorem f_works_moulds (st h lm dw dj) : (worksF st h lm dw dj).lookup ("moulds" : Str) = some (.ref lm) := rfl
theorem f_works_waiting (st h lm dw dj) : (worksF st h lm dw dj).lookup ("waiting" : Str) = some (.ref dw) := rfl
theorem f_works_jobs (st h lm dw dj) : (worksF st h lm dw dj).lookup ("jobs" : Str) = some (.ref dj) := rfl
theorem f_works_done (st h lm dw dj) : (worksF st h lm dw dj).lookup ("done" : Str) = some (.int h.done) := rfl
theorem f_job_blade (L Cn ba j) : (jobF L Cn ba j).lookup ("blade" : Str) = some (.ref ba) := rfl
theorem f_job_mould (L Cn ba j) : (jobF L Cn ba j).lookup ("mould" : Str) = some (.int j.mould) := rfl
theorem f_job_begin (L Cn ba j) : (jobF L Cn ba j).lookup ("begin" : Str) = some (.int j.from_) := rfl
theorem f_job_ready (L Cn ba j) : (jobF L Cn ba j).lookup ("ready" : Str) = some (.int (j.from_ + j.blade.minutes : Nat)) := rfl
theorem f_job_lifted (L Cn ba j) : (jobF L Cn ba j).lookup ("lifted" : Str) = some (.int j.lift) := rfl
theorem f_job_out (L Cn ba j) : (jobF L Cn ba j).lookup ("out" : Str) = some (.int (j.lift + L : Nat)) := rfl
theorem f_job_free (L Cn ba j) : (jobF L Cn ba j).lookup ("free" : Str) = some (.int (j.lift + L + Cn : Nat)) := rfl
theorem f_blade_kind (b) : (bladeF b).lookup ("kind" : Str) = some (.int b.kind) := rfl
theorem f_blade_minutes (b) : (bladeF b).lookup ("minutes" : Str) = some (.int b.minutes) := rfl
variable {i : Nat} {σ : L2.St} {H : Hp} {p : Addr} {h : Kqv4.Hall} {Q : VK} {L Cn : Nat} {j : Kqv4.Job} {b : Kqv4.Blade}
theorem rd_lift (hs : σ[i]? = some (some (.ref p))) (c : Cr T H p h) (q : Q (.int h.lift) H) : tFld K (tVar i) "lift" σ H Q :=
  let ⟨_, dx, _, _, _, e, _⟩ := c.ex; ⟨_, hs, p, _, dx, _, _, rfl, e, T.Works.cl, T.n_Works_lift, f_works_lift .., q⟩
theorem rd_clean (hs : σ[i]? = some (some (.ref p))) (c : Cr T H p h) (q : Q (.int h.clean) H) : tFld K (tVar i) "clean" σ H Q :=
  let ⟨_, dx, _, _, _, e, _⟩ := c.ex; ⟨_, hs, p, _, dx, _, _, rfl, e, T.Works.cl, T.n_Works_clean, f_works_clean .., q⟩
theorem rd_minute (hs : σ[i]? = some (some (.ref p))) (c : Cr T H p h) (q : Q (.int h.minute) H) : tFld K (tVar i) "minute" σ H Q :=
  let ⟨_, dx, _, _, _, e, _⟩ := c.ex; ⟨_, hs, p, _, dx, _, _, rfl, e, T.Works.cl, T.n_Works_minute, f_works_minute .., q⟩
theorem rd_moulds (hs : σ[i]? = some (some (.ref p))) (c : Cr T H p h) (q : ∀ lm, H lm = some (.lst (h.moulds.map fun (k : Nat) => V.int k)) → Q (.ref lm) H) : tFld K (tVar i) "moulds" σ H Q :=
  let ⟨_, dx, lm, _, _, e, m⟩ := c.ex; ⟨_, hs, p, _, dx, _, _, rfl, e, T.Works.cl, T.n_Works_moulds, f_works_moulds .., q lm m⟩
theorem rd_mould (hs : σ[i]? = some (some (.ref p))) (c : JobAt T L Cn H p j) (q : Q (.int j.mould) H) : tFld K (tVar i) "mould" σ H Q :=
  let ⟨dx, _, e, _⟩ := c; ⟨_, hs, p, _, dx, _, _, rfl, e, T.Job.cl, T.n_Job_mould, f_job_mould .., q⟩
theorem rd_begin (hs : σ[i]? = some (some (.ref p))) (c : JobAt T L Cn H p j) (q : Q (.int j.from_) H) : tFld K (tVar i) "begin" σ H Q :=
  let ⟨dx, _, e, _⟩ := c; ⟨_, hs, p, _, dx, _, _, rfl, e, T.Job.cl, T.n_Job_begin, f_job_begin .., q⟩
theorem rd_done (hs : σ[i]? = some (some (.ref p))) (c : Cr T H p h) (q : Q (.int h.done) H) : tFld K (tVar i) "done" σ H Q :=
  let ⟨_, dx, _, _, _, e, _⟩ := c.ex; ⟨_, hs, p, _, dx, _, _, rfl, e, T.Works.cl, T.n_Works_done, f_works_done .., q⟩
theorem rd_ready (hs : σ[i]? = some (some (.ref p))) (c : JobAt T L Cn H p j) (q : Q (.int (j.from_ + j.blade.minutes : Nat)) H) : tFld K (tVar i) "ready" σ H Q :=
  let ⟨dx, _, e, _⟩ := c; ⟨_, hs, p, _, dx, _, _, rfl, e, T.Job.cl, T.n_Job_ready, f_job_ready .., q⟩
theorem rd_lifted (hs : σ[i]? = some (some (.ref p))) (c : JobAt T L Cn H p j) (q : Q (.int j.lift) H) : tFld K (tVar i) "lifted" σ H Q :=
  let ⟨dx, _, e, _⟩ := c; ⟨_, hs, p, _, dx, _, _, rfl, e, T.Job.cl, T.n_Job_lifted, f_job_lifted .., q⟩
theorem rd_out (hs : σ[i]? = some (some (.ref p))) (c : JobAt T L Cn H p j) (q : Q (.int (j.lift + L : Nat)) H) : tFld K (tVar i) "out" σ H Q :=
  let ⟨dx, _, e, _⟩ := c; ⟨_, hs, p, _, dx, _, _, rfl, e, T.Job.cl, T.n_Job_out, f_job_out .., q⟩
theorem rd_free (hs : σ[i]? = some (some (.ref p))) (c : JobAt T L Cn H p j) (q : Q (.int (j.lift + L + Cn : Nat)) H) : tFld K (tVar i) "free" σ H Q :=
  let ⟨dx, _, e, _⟩ := c; ⟨_, hs, p, _, dx, _, _, rfl, e, T.Job.cl, T.n_Job_free, f_job_free .., q⟩
theorem rd_blade (hs : σ[i]? = some (some (.ref p))) (c : JobAt T L Cn H p j) (q : ∀ ba, BladeAt T H ba j.blade → Q (.ref ba) H) : tFld K (tVar i) "blade" σ H Q :=
  let ⟨dx, ba, e, z⟩ := c; ⟨_, hs, p, _, dx, _, _, rfl, e, T.Job.cl, T.n_Job_blade, f_job_blade .., q ba z⟩
theorem rd_kind (hs : σ[i]? = some (some (.ref p))) (c : BladeAt T H p b) (q : Q (.int b.kind) H) : tFld K (tVar i) "kind" σ H Q :=
  let ⟨dx, e⟩ := c; ⟨_, hs, p, _, dx, _, _, rfl, e, T.Blade.cl, T.n_Blade_kind, f_blade_kind .., q⟩
theorem rd_minutes (hs : σ[i]? = some (some (.ref p))) (c : BladeAt T H p b) (q : Q (.int b.minutes) H) : tFld K (tVar i) "minutes" σ H Q :=
  let ⟨dx, e⟩ := c; ⟨_, hs, p, _, dx, _, _, rfl, e, T.Blade.cl, T.n_Blade_minutes, f_blade_minutes .., q⟩
end
end Bp
set_option Elab.async false
set_option linter.all false
set_option maxRecDepth 100000
set_option maxHeartbeats 2000000
namespace Bp
open PySem PySem.Spec PyProof.Rows L2 Bl
open Bc (withJ js_withJ walk walk_lifts js)
section
variable {P : Program} {w : World} {K : PySem.W.Frag} {mg : Str → Option Value} {base : Heap}
theorem paired_ref {α : Type} {R : Addr → α → Prop} : ∀ {l : List Addr} {m : List α}, Paired R l m → Paired (fun x y => ∃ a, x = V.ref a ∧ R a y) (l.map V.ref) m
  | _, _, .nil => .nil
  | _, _, .cons r t => .cons ⟨_, rfl, r⟩ (paired_ref t)
def sp_first_lift (T : Tx K mg) : Sp := fun vs H Q _ => ∃ (p q : Addr) (t : Nat) (h : Kqv4.Hall) (jl : List Kqv4.Job), vs = [.ref p, .ref q, .int t] ∧ Cr T H p h ∧ JobsAt T h H q jl ∧ jl.length < 64 ∧
  ∀ H', Same H H' → Q (.int (Kqv4.lifts (withJ h jl) t)) H'
theorem ok_first_lift (T : Tx K mg) : FnOk P w K mg base CX0 1 T.first_lift.f T.first_lift.fd ["works", "jobs", "minute"] (sp_first_lift T) := by
  refine T.first_lift.F.ok sc_first_lift (fun vs H Q E h => ?_) (fun cdv A outer s H vs Q E hr h => ?_)
  · obtain ⟨p, q, t, h, jl, rfl, _⟩ := h
    rfl
  · obtain ⟨p, q, t, h, jl, rfl, c, ⟨as, hq, ja⟩, h64, k⟩ := h
    have hu := hu_of hr
    refine ⟨_, (pss_cons (ps_set (i := 3) sc_first_lift.nd rfl (Or.inl rfl) (pv 2))
    (pss_cons (ps_for PassesOwn.never rfl (pi_list (pe_callB (cr_sorted) (by rfl) T.b_sorted boot_sorted (pa_cons (pe_lc (own := [("job", 5)]) (tt := tYes) (te := (tFld K (tVar 5) "lifted")) rfl sc_first_lift.nd (pi_list (pv 1)) (blkOk_by (by rfl)) (fun _ _ _ _ _ => (pg_name (i := 5) sc_first_lift.nd rfl (Or.inl rfl))) (fun _ _ _ _ _ => pts_nil) (fun _ _ _ _ _ => (pe_fld (pv 5) rfl))) pa_nil))) (pg_name (i := 4) sc_first_lift.nd rfl (Or.inl rfl))
    (pss_cons (ps_if (pt_cmpR op_ge (pv 4) (pe_op op_add (pv 3) (pe_fld (pv 0) rfl)) (nomark _))
      (pss_one ps_break)
      pss_nil)
      (pss_one (ps_if (pt_cmpR op_gt (pe_op op_add (pv 4) (pe_fld (pv 0) rfl)) (pv 3) (nomark _))
      (pss_one (ps_set (i := 3) sc_first_lift.nd rfl (Or.inl rfl) (pe_op op_add (pv 4) (pe_fld (pv 0) rfl))))
      pss_nil))))
    (pss_one (ps_ret (pv 3))))), ?_⟩
    -- first = minute
    refine ⟨_, rfl, ?_⟩
    -- sorted([job.lifted for job in jobs])
    refine ⟨_, rfl, q, rfl, ⟨_, SqL.of hq⟩, ?_⟩
    have hlen : as.length = jl.length := Paired.length ja
    refine lc_paired (i := 5) (paired_ref ja) hq (by show 5 < 6; decide) (by rw [List.length_map, hlen]; exact small64 h64) (fun _ => true) (fun (j : Kqv4.Job) => V.int j.lift) (fun x y _ H' Q' _ z => z) ?_ ?_
    · rintro x y ⟨a, rfl, ja'⟩ _ H' Q' sm z
      exact rd_lifted (T := T) rfl (ja'.mono sm) z
    intro D hD
    refine ⟨D, jl.map fun j => (j.lift : Int), rfl, SqL.of (by rw [upd_same, List.filter_eq_self.mpr (fun _ _ => rfl), List.map_map]; rfl), by rw [List.length_map]; exact h64, fun ns l pm srt hl => ?_⟩
    have s1 : Same H (upd (upd H D (.lst ((jl.filter fun _ => true).map fun (j : Kqv4.Job) => V.int j.lift))) l (.lst (ns.map V.int))) := fun b o e => by
      have e1 : upd H D (.lst ((jl.filter fun _ => true).map fun (j : Kqv4.Job) => V.int j.lift)) b = some o := by rw [upd_ne (ne_of_none e hD)]; exact e
      rw [upd_ne (ne_of_none e1 hl)]; exact e1
    have wl : walk (h.lift : Int) ns (t : Int) = (Kqv4.lifts (withJ h jl) t : Int) := by
      refine walk_lifts (h := withJ h jl) srt fun z => ?_
      rw [js_withJ, pm.mem_iff, List.mem_map]
      constructor
      · rintro ⟨j, hj, e⟩; exact ⟨j, hj, e.symm⟩
      · rintro ⟨j, hj, e⟩; exact ⟨j, hj, e.symm⟩
    have hl1 : (upd (upd H D (.lst ((jl.filter fun _ => true).map fun (j : Kqv4.Job) => V.int j.lift))) l (.lst (ns.map V.int))) l = some (.lst (ns.map V.int)) := upd_same
    generalize upd (upd H D (.lst ((jl.filter fun _ => true).map fun (j : Kqv4.Job) => V.int j.lift))) l (.lst (ns.map V.int)) = H1 at s1 hl1 ⊢
    have c1 := c.mono s1
    refine ⟨l, rfl, ⟨_, SqL.of hl1⟩, for_list (K := K) (a := l) (xs := ns.map V.int) (fun i σ H' => ∃ (f : Int) (v4 v5 : Option V), σ = [some (.ref p), some (.ref q), some (.int t), some (.int f), v4, v5] ∧ H' = H1 ∧ walk h.lift (ns.drop i) f = (Kqv4.lifts (withJ h jl) t : Int))
      ⟨_, _, _, rfl, rfl, wl⟩ (fun i σ H' _ ⟨_, _, _, _, e, _⟩ => by rw [e]; exact SqL.of hl1) ?_ ?_⟩
    · rintro i y σ H' hi ⟨f, v4, v5, rfl, rfl, hw⟩
      rw [List.getElem?_map] at hi
      obtain ⟨z, hz, rfl⟩ := Option.map_eq_some_iff.mp hi
      obtain ⟨hi', ez⟩ := List.getElem?_eq_some_iff.mp hz
      rw [List.drop_eq_getElem_cons hi', ez] at hw
      unfold walk at hw
      -- if taken >= first + works.lift: break
      refine ⟨_, rfl, _, rfl, rd_lift (T := T) rfl c1 ⟨_, _, rfl, rfl, _, _, rfl, rfl, _, rfl, ite2 (fun ge => ?_) fun ge => ?_⟩⟩
      · have ge := of_decide_eq_true ge
        rw [if_pos ge] at hw
        exact ⟨_, rfl, by rw [hw]; exact k _ s1⟩
      · have ge := fun z => ge (decide_eq_true z)
        rw [if_neg ge] at hw
        refine ⟨_, rfl, rd_lift (T := T) rfl c1 ⟨_, _, rfl, rfl, _, rfl, _, _, rfl, rfl, _, rfl, ite2 (fun lt => ?_) fun lt => ?_⟩⟩
        · have lt := of_decide_eq_true lt
          rw [if_pos lt] at hw
          exact ⟨_, rfl, rd_lift (T := T) rfl c1 ⟨_, _, rfl, rfl, _, _, _, rfl, rfl, hw⟩⟩
        · rw [if_neg (fun z => lt (decide_eq_true z))] at hw
          exact ⟨_, _, _, rfl, rfl, hw⟩
    · rintro σ H' ⟨f, v4, v5, rfl, rfl, hw⟩
      rw [List.length_map, List.drop_length] at hw
      have hw : f = (Kqv4.lifts (withJ h jl) t : Int) := hw
      exact ⟨_, rfl, by rw [hw]; exact k _ s1⟩
end
end Bp
set_option Elab.async false
set_option linter.all false
set_option maxRecDepth 100000
set_option maxHeartbeats 2000000
namespace Bp
open PySem PySem.Spec PyProof.Rows L2 Bl
open Bc (withJ js_withJ walk walk_lifts js)
theorem same_new {H : Hp} {l : Addr} {o : HO} (h : H l = none) : Same H (upd H l o) := fun b u e => by rw [upd_ne (ne_of_none e h)]; exact e
theorem same_made {H : Hp} {x dx : Addr} {o u : HO} (h : H x = none) (hd : H dx = none) : Same H (upd (upd H dx u) x o) := fun b v e => by rw [upd_ne (ne_of_none e h), upd_ne (ne_of_none e hd)]; exact e
section
variable {P : Program} {w : World} {K : PySem.W.Frag} {mg : Str → Option Value} {base : Heap}
def sp_Blade_init (T : Tx K mg) : Sp := fun vs H Q _ => ∃ (p dx : Addr) (v1 v2 : V), vs = [.ref p, v1, v2] ∧ H p = some (.ins T.Blade.C dx []) ∧ Q .non (upd H p (.ins T.Blade.C dx [("kind", v1), ("minutes", v2)]))
theorem ok_Blade_init (T : Tx K mg) : FnOk P w K mg base CX0 1 T.Blade_init.f T.Blade_init.fd ["self", "kind", "minutes"] (sp_Blade_init T) := by
  refine T.Blade_init.F.ok sc_Blade_init (fun vs H Q E h => ?_) (fun cdv A outer s H vs Q E hr h => ?_)
  · obtain ⟨p, dx, v1, v2, rfl, _⟩ := h
    rfl
  · obtain ⟨p, dx, v1, v2, rfl, hp, k⟩ := h
    refine ⟨_, (pss_cons (ps_fld (pv 0) (pv 1) rfl)
    (pss_one (ps_fld (pv 0) (pv 2) rfl))), ?_⟩
    refine ⟨_, rfl, _, rfl, p, _, dx, [], rfl, hp, T.Blade.cl, T.n_Blade_kind, (by show 0 < 1000; decide), ?_⟩
    refine ⟨_, rfl, _, rfl, p, _, dx, _, rfl, upd_same, T.Blade.cl, T.n_Blade_minutes, (by show 1 < 1000; decide), ?_⟩
    rw [upd_upd]
    exact k
def sp_Job_init (T : Tx K mg) : Sp := fun vs H Q _ => ∃ (p dx ba : Addr) (b : Kqv4.Blade) (t : Nat) (v2 v4 v5 v6 : V), vs = [.ref p, .ref ba, v2, .int t, v4, v5, v6] ∧ H p = some (.ins T.Job.C dx []) ∧ BladeAt T H ba b ∧
  Q .non (upd H p (.ins T.Job.C dx [("blade", .ref ba), ("mould", v2), ("begin", .int t), ("ready", .int (t + b.minutes : Nat)), ("lifted", v4), ("out", v5), ("free", v6)]))
theorem ok_Job_init (T : Tx K mg) : FnOk P w K mg base CX0 1 T.Job_init.f T.Job_init.fd ["self", "blade", "mould", "begin", "lifted", "out", "free"] (sp_Job_init T) := by
  refine T.Job_init.F.ok sc_Job_init (fun vs H Q E h => ?_) (fun cdv A outer s H vs Q E hr h => ?_)
  · obtain ⟨p, dx, ba, b, t, v2, v4, v5, v6, rfl, _⟩ := h
    rfl
  · obtain ⟨p, dx, ba, b, t, v2, v4, v5, v6, rfl, hp, hb, k⟩ := h
    have nb : ba ≠ p := by
      obtain ⟨dx', e⟩ := hb
      intro z
      rw [z, hp] at e
      injection e with e
      injection e with _ _ e
      exact nomatch e
    have hb' : ∀ o, BladeAt T (upd H p o) ba b := fun o => by
      obtain ⟨dx', e⟩ := hb
      exact ⟨dx', by rw [upd_ne nb]; exact e⟩
    refine ⟨_, (pss_cons (ps_fld (pv 0) (pv 1) rfl)
    (pss_cons (ps_fld (pv 0) (pv 2) rfl)
    (pss_cons (ps_fld (pv 0) (pv 3) rfl)
    (pss_cons (ps_fld (pv 0) (pe_op op_add (pv 3) (pe_fld (pv 1) rfl)) rfl)
    (pss_cons (ps_fld (pv 0) (pv 4) rfl)
    (pss_cons (ps_fld (pv 0) (pv 5) rfl)
    (pss_one (ps_fld (pv 0) (pv 6) rfl)))))))), ?_⟩
    refine ⟨_, rfl, _, rfl, p, _, dx, [], rfl, hp, T.Job.cl, T.n_Job_blade, (by show 0 < 1000; decide), ?_⟩
    refine ⟨_, rfl, _, rfl, p, _, dx, _, rfl, upd_same, T.Job.cl, T.n_Job_mould, (by show 1 < 1000; decide), ?_⟩
    rw [upd_upd]
    refine ⟨_, rfl, _, rfl, p, _, dx, _, rfl, upd_same, T.Job.cl, T.n_Job_begin, (by show 2 < 1000; decide), ?_⟩
    rw [upd_upd]
    refine ⟨_, rfl, rd_minutes (T := T) rfl (hb' _) ⟨_, _, rfl, rfl, _, rfl, p, _, dx, _, rfl, upd_same, T.Job.cl, T.n_Job_ready, (by show 3 < 1000; decide), ?_⟩⟩
    rw [upd_upd]
    refine ⟨_, rfl, _, rfl, p, _, dx, _, rfl, upd_same, T.Job.cl, T.n_Job_lifted, (by show 4 < 1000; decide), ?_⟩
    rw [upd_upd]
    refine ⟨_, rfl, _, rfl, p, _, dx, _, rfl, upd_same, T.Job.cl, T.n_Job_out, (by show 5 < 1000; decide), ?_⟩
    rw [upd_upd]
    refine ⟨_, rfl, _, rfl, p, _, dx, _, rfl, upd_same, T.Job.cl, T.n_Job_free, (by show 6 < 1000; decide), ?_⟩
    rw [upd_upd]
    exact k
def sp_free_at_last (T : Tx K mg) : Sp := fun vs H Q _ => ∃ (p q : Addr) (m : Nat) (h : Kqv4.Hall) (jl : List Kqv4.Job), vs = [.ref p, .ref q, .int m] ∧ Cr T H p h ∧ JobsAt T h H q jl ∧ jl.length < 64 ∧
  ∀ H', Same H H' → Q (.int (Kqv4.freeAt (withJ h jl) m)) H'
theorem ok_free_at_last (T : Tx K mg) : FnOk P w K mg base CX0 1 T.free_at_last.f T.free_at_last.fd ["works", "jobs", "mould"] (sp_free_at_last T) := by
  refine T.free_at_last.F.ok sc_free_at_last (fun vs H Q E h => ?_) (fun cdv A outer s H vs Q E hr h => ?_)
  · obtain ⟨p, q, t, h, jl, rfl, _⟩ := h
    rfl
  · obtain ⟨p, q, m, h, jl, rfl, c, ⟨as, hq, ja⟩, h64, k⟩ := h
    refine ⟨_, (pss_one (ps_ret (pe_callB (cr_max rfl) (by rfl) T.b_max boot_max (pa_cons (pe_op op_cat (pe_lc (own := [("job", 3)]) (tt := (tTest (tOp rEq (tFld K (tVar 3) "mould") (tVar 2)))) (te := (tFld K (tVar 3) "free")) rfl sc_free_at_last.nd (pi_list (pv 1)) (blkOk_by (by rfl)) (fun _ _ _ _ _ => (pg_name (i := 3) sc_free_at_last.nd rfl (Or.inl rfl))) (fun _ _ _ _ _ => (pts_one (pt_cmpR op_eq (pe_fld (pv 3) rfl) (pv 2) (nomark _)))) (fun _ _ _ _ _ => (pe_fld (pv 3) rfl))) (pe_lst (pa_cons (pe_fld (pv 0) rfl) pa_nil))) pa_nil)))), ?_⟩
    refine ⟨_, rfl, q, rfl, ⟨_, SqL.of hq⟩, ?_⟩
    have hlen : as.length = jl.length := Paired.length ja
    refine lc_paired (i := 3) (paired_ref ja) hq (by show 3 < 4; decide) (by rw [List.length_map, hlen]; exact small64 h64) (fun (j : Kqv4.Job) => j.mould == m) (fun (j : Kqv4.Job) => V.int (j.lift + h.lift + h.clean : Nat)) ?_ ?_ ?_
    · rintro x y ⟨a, rfl, ja'⟩ H' Q' sm z
      unfold tTest tOp
      refine rd_mould (T := T) rfl (ja'.mono sm) ⟨_, rfl, rfl, _, rfl, ?_⟩
      have e : decide (V.int (y.mould : Int) = V.int (m : Int)) = (y.mould == m) := by
        rw [Bool.eq_iff_iff, decide_eq_true_iff, beq_iff_eq]
        constructor
        · intro z; injection z with z; omega
        · intro z; rw [z]
      rw [e]
      exact z
    · rintro x y ⟨a, rfl, ja'⟩ _ H' Q' sm z
      exact rd_free (T := T) rfl (ja'.mono sm) z
    intro D hD
    have s1 := same_new (o := .lst ((jl.filter fun (j : Kqv4.Job) => j.mould == m).map fun (j : Kqv4.Job) => V.int (j.lift + h.lift + h.clean : Nat))) hD
    refine rd_minute (T := T) rfl (c.mono s1) ⟨by show 1 ≤ sizeLine; decide, fun l hl => ?_⟩
    have s2 := same_new (o := .lst [V.int h.minute]) hl
    have fl : (jl.filter fun (j : Kqv4.Job) => j.mould == m).length ≤ jl.length := List.length_filter_le _ _
    refine ⟨D, l, _, _, rfl, rfl, s2 _ _ upd_same, upd_same, ?_, fun r hr => ?_⟩
    · rw [List.length_map]
      show _ + 1 ≤ sizeLine
      have := small64 (n := 63) (by decide)
      rw [sizeLine_eq] at this ⊢
      omega
    have s3 := same_new (o := .lst (((jl.filter fun (j : Kqv4.Job) => j.mould == m).map fun (j : Kqv4.Job) => V.int (j.lift + h.lift + h.clean : Nat)) ++ [V.int h.minute])) hr
    refine ⟨r, (((jl.filter fun (j : Kqv4.Job) => j.mould == m).map fun j => j.lift + h.lift + h.clean).map fun (k : Nat) => (k : Int)) ++ [(h.minute : Int)], rfl, SqL.of ?_, ?_, fun M hM hM2 => ?_⟩
    · rw [upd_same, List.map_append, List.map_map, List.map_map]
      rfl
    · rw [List.length_append]; show 0 < _ + 1; omega
    · rw [Bc.max_int rfl hM hM2, ← Bc.freeAt_withJ]
      exact k _ (s1.trans (s2.trans s3))
def sp_last_out (T : Tx K mg) : Sp := fun vs H Q _ => ∃ (p q : Addr) (h : Kqv4.Hall) (jl : List Kqv4.Job), vs = [.ref p, .ref q] ∧ Cr T H p h ∧ JobsAt T h H q jl ∧ jl.length < 64 ∧
  ∀ H', Same H H' → Q (.int (Kqv4.over (withJ h jl))) H'
theorem ok_last_out (T : Tx K mg) : FnOk P w K mg base CX0 1 T.last_out.f T.last_out.fd ["works", "jobs"] (sp_last_out T) := by
  refine T.last_out.F.ok sc_last_out (fun vs H Q E h => ?_) (fun cdv A outer s H vs Q E hr h => ?_)
  · obtain ⟨p, q, h, jl, rfl, _⟩ := h
    rfl
  · obtain ⟨p, q, h, jl, rfl, c, ⟨as, hq, ja⟩, h64, k⟩ := h
    refine ⟨_, (pss_one (ps_ret (pe_callB (cr_max rfl) (by rfl) T.b_max boot_max (pa_cons (pe_op op_cat (pe_lc (own := [("job", 2)]) (tt := tYes) (te := (tFld K (tVar 2) "out")) rfl sc_last_out.nd (pi_list (pv 1)) (blkOk_by (by rfl)) (fun _ _ _ _ _ => (pg_name (i := 2) sc_last_out.nd rfl (Or.inl rfl))) (fun _ _ _ _ _ => pts_nil) (fun _ _ _ _ _ => (pe_fld (pv 2) rfl))) (pe_lst (pa_cons (pe_fld (pv 0) rfl) pa_nil))) pa_nil)))), ?_⟩
    refine ⟨_, rfl, q, rfl, ⟨_, SqL.of hq⟩, ?_⟩
    have hlen : as.length = jl.length := Paired.length ja
    refine lc_paired (i := 2) (paired_ref ja) hq (by show 2 < 3; decide) (by rw [List.length_map, hlen]; exact small64 h64) (fun _ => true) (fun (j : Kqv4.Job) => V.int (j.lift + h.lift : Nat)) (fun x y _ H' Q' _ z => z) ?_ ?_
    · rintro x y ⟨a, rfl, ja'⟩ _ H' Q' sm z
      exact rd_out (T := T) rfl (ja'.mono sm) z
    intro D hD
    rw [List.filter_eq_self.mpr (fun _ _ => rfl)]
    have s1 := same_new (o := .lst (jl.map fun (j : Kqv4.Job) => V.int (j.lift + h.lift : Nat))) hD
    refine rd_minute (T := T) rfl (c.mono s1) ⟨by show 1 ≤ sizeLine; decide, fun l hl => ?_⟩
    have s2 := same_new (o := .lst [V.int h.minute]) hl
    refine ⟨D, l, _, _, rfl, rfl, s2 _ _ upd_same, upd_same, ?_, fun r hr => ?_⟩
    · rw [List.length_map]
      show _ + 1 ≤ sizeLine
      rw [sizeLine_eq]
      omega
    have s3 := same_new (o := .lst ((jl.map fun (j : Kqv4.Job) => V.int (j.lift + h.lift : Nat)) ++ [V.int h.minute])) hr
    refine ⟨r, ((jl.map fun j => j.lift + h.lift).map fun (k : Nat) => (k : Int)) ++ [(h.minute : Int)], rfl, SqL.of ?_, ?_, fun M hM hM2 => ?_⟩
    · rw [upd_same, List.map_append, List.map_map, List.map_map]
      rfl
    · rw [List.length_append]; show 0 < _ + 1; omega
    · rw [Bc.max_int rfl hM hM2, ← Bc.over_withJ]
      exact k _ (s1.trans (s2.trans s3))
def sp_job_from (T : Tx K mg) : Sp := fun vs H Q _ => ∃ (p q a : Addr) (m t : Nat) (h : Kqv4.Hall) (jl : List Kqv4.Job) (b : Kqv4.Blade), vs = [.ref p, .ref q, .ref a, .int m, .int t] ∧ Cr T H p h ∧ JobsAt T h H q jl ∧ jl.length < 64 ∧ BladeAt T H a b ∧
  ∀ H' r, Same H H' → JobAt T h.lift h.clean H' r ⟨b, m, t, Kqv4.lifts (withJ h jl) (t + b.minutes)⟩ → Q (.ref r) H'
theorem ok_job_from (T : Tx K mg) : FnOk P w K mg base CX0 3 T.job_from.f T.job_from.fd ["works", "jobs", "blade", "mould", "begin"] (sp_job_from T) := by
  refine T.job_from.F.ok sc_job_from (fun vs H Q E h => ?_) (fun cdv A outer s H vs Q E hr h => ?_)
  · obtain ⟨p, q, a, m, t, h, jl, b, rfl, _⟩ := h
    rfl
  · obtain ⟨p, q, a, m, t, h, jl, b, rfl, c, hj, h64, hb, k⟩ := h
    refine ⟨_, (pss_cons (ps_set (i := 5) sc_job_from.nd rfl (Or.inl rfl) (pe_dn T.first_lift (ok_first_lift T) (hr.mono (by decide)) (by rfl) (pa_cons (pv 0) (pa_cons (pv 1) (pa_cons (pe_op op_add (pv 4) (pe_fld (pv 2) rfl)) pa_nil)))))
    (pss_cons (ps_set (i := 6) sc_job_from.nd rfl (Or.inl rfl) (pe_op op_add (pv 5) (pe_fld (pv 0) rfl)))
    (pss_one (ps_ret (pe_mk T.Job_init (ok_Job_init T) (hr.mono (by decide)) (by rfl) (pa_cons (pv 2) (pa_cons (pv 3) (pa_cons (pv 4) (pa_cons (pv 5) (pa_cons (pv 6) (pa_cons (pe_op op_add (pv 6) (pe_fld (pv 0) rfl)) pa_nil))))))))))), ?_⟩
    refine ⟨_, rfl, _, rfl, _, rfl, rd_minutes (T := T) rfl hb ⟨_, _, rfl, rfl, ?_⟩⟩
    refine ⟨p, q, t + b.minutes, h, jl, rfl, c, hj, h64, fun H1 s1 => ?_⟩
    have c1 := c.mono s1
    refine ⟨_, rfl, rd_lift (T := T) rfl c1 ⟨_, _, rfl, rfl, ?_⟩⟩
    refine ⟨_, rfl, _, rfl, _, rfl, _, rfl, _, rfl, _, rfl, rd_clean (T := T) rfl c1 ⟨_, _, rfl, rfl, ?_⟩⟩
    intro x dx hx hdx ne
    have s2 := same_made (o := .ins T.Job.C dx []) (u := .own x) hx hdx
    refine ⟨x, dx, a, b, t, _, _, _, _, rfl, upd_same, (hb.mono s1).mono s2, rfl, ?_⟩
    rw [upd_upd]
    have s3 := same_made (o := .ins T.Job.C dx (jobF h.lift h.clean a ⟨b, m, t, Kqv4.lifts (withJ h jl) (t + b.minutes)⟩)) (u := .own x) hx hdx
    exact k _ x (s1.trans s3) ⟨dx, a, upd_same, (hb.mono s1).mono s3⟩
def sp_mould_is_used (T : Tx K mg) : Sp := fun vs H Q _ => ∃ (q r : Addr) (h : Kqv4.Hall) (jl : List Kqv4.Job) (j : Kqv4.Job), vs = [.ref q, .ref r] ∧ JobsAt T h H q jl ∧ JobAt T h.lift h.clean H r j ∧
  Q (.bl (!(jl.all fun i => !(i.mould == j.mould && decide (i.from_ < j.lift + h.lift + h.clean) && decide (j.from_ < i.lift + h.lift + h.clean))))) H
theorem ok_mould_is_used (T : Tx K mg) : FnOk P w K mg base CX0 1 T.mould_is_used.f T.mould_is_used.fd ["jobs", "wanted"] (sp_mould_is_used T) := by
  refine T.mould_is_used.F.ok sc_mould_is_used (fun vs H Q E h => ?_) (fun cdv A outer s H vs Q E hr h => ?_)
  · obtain ⟨q, r, h, jl, j, rfl, _⟩ := h
    rfl
  · obtain ⟨q, r, h, jl, j, rfl, ⟨as, hq, ja⟩, hj, k⟩ := h
    refine ⟨_, (pss_cons (ps_for PassesOwn.never rfl (pi_list (pv 0)) (pg_name (i := 2) sc_mould_is_used.nd rfl (Or.inl rfl))
    (pss_one (ps_if (pw_and (pt_cmpR op_eq (pe_fld (pv 2) rfl) (pe_fld (pv 1) rfl) (nomark _)) (pw_and (pt_cmpR op_lt (pe_fld (pv 2) rfl) (pe_fld (pv 1) rfl) (nomark _)) (pw_and1 (pt_cmpR op_lt (pe_fld (pv 1) rfl) (pe_fld (pv 2) rfl) (nomark _))))).pt
      (pss_one (ps_ret pe_bl))
      pss_nil)))
    (pss_one (ps_ret pe_bl))), ?_⟩
    refine ⟨_, rfl, q, rfl, ⟨_, SqL.of hq⟩, for_list (K := K) (a := q) (xs := as.map V.ref) (fun i σ H' => ∃ v : Option V, σ = [some (.ref q), some (.ref r), v] ∧ H' = H ∧ ∀ x ∈ jl.take i, (x.mould == j.mould && decide (x.from_ < j.lift + h.lift + h.clean) && decide (j.from_ < x.lift + h.lift + h.clean)) = false)
      ⟨none, rfl, rfl, by simp⟩ (fun i σ H' _ ⟨_, _, e, _⟩ => by rw [e]; exact SqL.of hq) ?_ ?_⟩
    · rintro i y σ H' hi ⟨v, rfl, rfl, hn⟩
      obtain ⟨x, hx, a, rfl, hxa⟩ := L2.paired_get (paired_ref ja) hi
      have next : (x.mould == j.mould && decide (x.from_ < j.lift + h.lift + h.clean) && decide (j.from_ < x.lift + h.lift + h.clean)) = false → ∀ z ∈ jl.take (i + 1), (z.mould == j.mould && decide (z.from_ < j.lift + h.lift + h.clean) && decide (j.from_ < z.lift + h.lift + h.clean)) = false := fun e z hz => by
        rw [take_snoc hx] at hz
        rcases List.mem_append.mp hz with q | q
        · exact hn z q
        · rw [show z = x by simpa using q]; exact e
      show tIfS _ _ _ _ _ _
      unfold tIfS tAnd tTest tOp
      refine rd_mould (T := T) rfl hxa (rd_mould (T := T) rfl hj ⟨rfl, _, rfl, ite2 (fun e1 => ?_) fun e1 => ?_⟩)
      · have e1 : (x.mould == j.mould) = true := by
          have := of_decide_eq_true e1
          injection this with this
          rw [beq_iff_eq]; omega
        refine rd_begin (T := T) rfl hxa (rd_free (T := T) rfl hj ⟨_, _, rfl, rfl, _, rfl, ite2 (fun e2 => ?_) fun e2 => ?_⟩)
        · have e2 : decide (x.from_ < j.lift + h.lift + h.clean) = true := by
            have := of_decide_eq_true e2
            exact decide_eq_true (by omega)
          refine rd_begin (T := T) rfl hj (rd_free (T := T) rfl hxa ⟨_, _, rfl, rfl, _, rfl, ite2 (fun e3 => ?_) fun e3 => ?_⟩)
          · have e3 : decide (j.from_ < x.lift + h.lift + h.clean) = true := by
              have := of_decide_eq_true e3
              exact decide_eq_true (by omega)
            have e : (jl.all fun i => !(i.mould == j.mould && decide (i.from_ < j.lift + h.lift + h.clean) && decide (j.from_ < i.lift + h.lift + h.clean))) = false := by
              rw [List.all_eq_false]
              exact ⟨x, List.mem_of_getElem? hx, by rw [e1, e2, e3]; decide⟩
            rw [e] at k
            exact k
          · refine ⟨_, rfl, rfl, next ?_⟩
            have : decide (j.from_ < x.lift + h.lift + h.clean) = false := decide_eq_false fun z => e3 (decide_eq_true (by omega))
            rw [this, Bool.and_false]
        · refine iteF ⟨_, rfl, rfl, next ?_⟩
          have : decide (x.from_ < j.lift + h.lift + h.clean) = false := decide_eq_false fun z => e2 (decide_eq_true (by omega))
          rw [this, Bool.and_false, Bool.false_and]
      · refine iteF ⟨_, rfl, rfl, next ?_⟩
        have : (x.mould == j.mould) = false := by
          rw [beq_eq_false_iff_ne]
          intro z
          exact e1 (decide_eq_true (by rw [z]))
        rw [this, Bool.false_and, Bool.false_and]
    · rintro σ H' ⟨v, rfl, rfl, hn⟩
      have hlen : as.length = jl.length := Paired.length ja
      rw [List.length_map, hlen, List.take_length] at hn
      have e : (jl.all fun i => !(i.mould == j.mould && decide (i.from_ < j.lift + h.lift + h.clean) && decide (j.from_ < i.lift + h.lift + h.clean))) = true := by
        rw [List.all_eq_true]
        intro x hx
        rw [hn x hx]
        rfl
      rw [e] at k
      exact k
def sp_has_mould (T : Tx K mg) : Sp := fun vs H Q _ => ∃ (p a : Addr) (h : Kqv4.Hall) (b : Kqv4.Blade), vs = [.ref p, .ref a] ∧ Cr T H p h ∧ BladeAt T H a b ∧ Q (.bl (decide (b.kind ∈ h.moulds))) H
theorem ok_has_mould (T : Tx K mg) : FnOk P w K mg base CX0 1 T.has_mould.f T.has_mould.fd ["works", "blade"] (sp_has_mould T) := by
  refine T.has_mould.F.ok sc_has_mould (fun vs H Q E h => ?_) (fun cdv A outer s H vs Q E hr h => ?_)
  · obtain ⟨p, a, h, b, rfl, _⟩ := h
    rfl
  · obtain ⟨p, a, h, b, rfl, c, hb, k⟩ := h
    refine ⟨_, (pss_one (ps_ret (pe_cmpR op_in_seq (pe_fld (pv 1) rfl) (pe_fld (pv 0) rfl) (by rfl)))), ?_⟩
    show tOp _ _ _ _ _ _
    unfold tOp
    refine rd_kind (T := T) rfl hb (rd_moulds (T := T) rfl c fun lm hm => ⟨lm, _, rfl, .inl (SqL.of hm), rfl, ?_, ?_⟩)
    · rw [List.all_map, List.all_eq_true]; intro _ _; rfl
    · have e : inV (V.int (b.kind : Int)) (h.moulds.map fun (k : Nat) => V.int k) = decide (b.kind ∈ h.moulds) := by
        unfold inV
        rw [Bool.eq_iff_iff, decide_eq_true_iff, List.any_map, List.any_eq_true]
        constructor
        · rintro ⟨x, hx, e⟩
          have e : ((x : Int) == (b.kind : Int)) = true := e
          have e := beq_iff_eq.mp e
          have : x = b.kind := by omega
          rw [← this]; exact hx
        · intro z
          exact ⟨b.kind, z, beq_self_eq_true (b.kind : Int)⟩
      show Q (.bl (inV (V.int (b.kind : Int)) (h.moulds.map fun (k : Nat) => V.int k))) H
      rw [e]
      exact k
end
end Bp
set_option Elab.async false
set_option linter.all false
set_option maxRecDepth 100000
set_option maxHeartbeats 2000000
namespace Bp
open PySem PySem.Spec PyProof.Rows L2 Bl
open Bc (withJ js_withJ walk walk_lifts js)
theorem for_enum {K : PySem.W.Frag} {a : Addr} {xs : List V} {g : TG} {tb : TS} {D : Ends} {σ : L2.St} {H : Hp} (Pv : Nat → L2.St → Hp → Prop) (h0 : Pv 0 σ H) (hl : ∀ i σ H, i ≤ xs.length → Pv i σ H → SqL K H a xs)
    (hs : ∀ i x σ H T, xs[i]? = some x → Pv i σ H → H T = none → g (.ref T) σ (upd H T (.tup [.int (i : Nat), x])) fun σ2 H2 => tb { D with nx := Pv (i + 1), ct := Pv (i + 1), bk := D.nx } σ2 H2) (hd : ∀ σ H, Pv xs.length σ H → D.nx σ H) :
    ∃ W : Nat → Nat → L2.St → Hp → Prop, (∃ m, W 0 m σ H) ∧ ∀ i m σ H, W i m σ H →
      ((Ite K a).stop i H ∧ D.nx σ H) ∨ ((Ite K a).go i H ∧ ∃ N : L2.St → Hp → Prop, (∀ σ' H', N σ' H' → ∃ m', m' < m ∧ W (i + 1) m' σ' H') ∧ ∀ x H', (Ite K a).yld i H x H' → g x σ H' fun σ2 H2 => tb { D with nx := N, ct := N, bk := D.nx } σ2 H2) := by
  refine ⟨fun i m σ H => m = xs.length - i ∧ i ≤ xs.length ∧ Pv i σ H, ⟨xs.length, by simp, Nat.zero_le _, h0⟩, ?_⟩
  rintro i m σ H ⟨rfl, hi, p⟩
  have q := hl i σ H hi p
  by_cases hlt : i < xs.length
  · refine .inr ⟨⟨xs, xs[i], q, by simp [hlt]⟩, Pv (i + 1), fun σ' H' p' => ⟨xs.length - (i + 1), by omega, rfl, hlt, p'⟩, fun x H' y => ?_⟩
    obtain ⟨T, z, rfl, hT, rfl, y⟩ := y
    exact hs i z σ H T (y xs q) p hT
  · have e : i = xs.length := by omega
    subst e
    exact .inl ⟨⟨xs, q, Nat.le_refl _⟩, hd σ H p⟩
section
variable {P : Program} {w : World} {K : PySem.W.Frag} {mg : Str → Option Value} {base : Heap}
def sp_best_job (T : Tx K mg) : Sp := fun vs H Q _ => ∃ (p q a : Addr) (h : Kqv4.Hall) (jl : List Kqv4.Job) (b : Kqv4.Blade), vs = [.ref p, .ref q, .ref a] ∧ Cr T H p h ∧ JobsAt T h H q jl ∧ jl.length < 64 ∧ BladeAt T H a b ∧
  (∀ H' r j, Same H H' → Kqv4.best (withJ h jl) b = some j → JobAt T h.lift h.clean H' r j → Q (.ref r) H') ∧ (∀ H', Same H H' → Kqv4.best (withJ h jl) b = none → Q .non H')
theorem ok_best_job (T : Tx K mg) : FnOk P w K mg base CX0 4 T.best_job.f T.best_job.fd ["works", "jobs", "blade"] (sp_best_job T) := by
  refine T.best_job.F.ok sc_best_job (fun vs H Q E h => ?_) (fun cdv A outer s H vs Q E hr h => ?_)
  · obtain ⟨p, q, a, h, jl, b, rfl, _⟩ := h
    rfl
  · obtain ⟨p, q, a, h, jl, b, rfl, c, hj, h64, hb, k1, k2⟩ := h
    refine ⟨_, (pss_cons (ps_set (i := 3) sc_best_job.nd rfl (Or.inl rfl) pe_non)
    (pss_cons (ps_for PassesOwn.never rfl (pi_enum (by rfl) T.b_enumerate (pa_cons (pe_fld (pv 0) rfl) pa_nil)) (pg_tup rfl (pgs_cons (pg_name (i := 4) sc_best_job.nd rfl (Or.inl rfl)) (pgs_cons (pg_name (i := 5) sc_best_job.nd rfl (Or.inl rfl)) pgs_nil)))
    (pss_one (ps_if (pt_cmpR op_eq (pv 5) (pe_fld (pv 2) rfl) (nomark _))
      (pss_cons (ps_set (i := 6) sc_best_job.nd rfl (Or.inl rfl) (pe_dn T.job_from (ok_job_from T) (hr.mono (by decide)) (by rfl) (pa_cons (pv 0) (pa_cons (pv 1) (pa_cons (pv 2) (pa_cons (pv 4) (pa_cons (pe_dn T.free_at_last (ok_free_at_last T) (hr.mono (by decide)) (by rfl) (pa_cons (pv 0) (pa_cons (pv 1) (pa_cons (pv 4) pa_nil)))) pa_nil)))))))
        (pss_one (ps_if (pw_or (pt_cmp (pc_isN (pv 3))) (pw_or1 (pt_cmpR op_lt (pe_fld (pv 6) rfl) (pe_fld (pv 3) rfl) (nomark _)))).pt
        (pss_one (ps_set (i := 3) sc_best_job.nd rfl (Or.inl rfl) (pv 6)))
        pss_nil)))
      pss_nil)))
    (pss_one (ps_ret (pv 3))))), ?_⟩
    refine rd_moulds (T := T) rfl c fun lm hm => ⟨lm, _, rfl, SqL.of hm, ?_⟩
    refine for_enum (K := K) (a := lm) (xs := h.moulds.map fun (k : Nat) => V.int k) (fun i σ H' => ∃ (bv : V) (v4 v5 v6 : Option V), σ = [some (.ref p), some (.ref q), some (.ref a), some bv, v4, v5, v6] ∧ Same H H' ∧
      (match Bc.bestTo (withJ h jl) b i with | none => bv = .non | some j => ∃ r, bv = .ref r ∧ JobAt T h.lift h.clean H' r j)) ⟨_, _, _, _, rfl, Same.refl _, rfl⟩ (fun i σ H' _ ⟨_, _, _, _, _, sm, _⟩ => SqL.of (sm _ _ hm)) ?_ ?_
    · rintro i y σ H' X hi ⟨bv, v4, v5, v6, rfl, sm, hbv⟩ hX
      rw [List.getElem?_map] at hi
      obtain ⟨kk, hk, rfl⟩ := Option.map_eq_some_iff.mp hi
      have s1 := same_new (o := .tup [.int (i : Nat), V.int kk]) hX
      have s01 := sm.trans s1
      have hbv1 : (match Bc.bestTo (withJ h jl) b i with | none => bv = .non | some j => ∃ r, bv = .ref r ∧ JobAt T h.lift h.clean (upd H' X (.tup [.int (i : Nat), V.int kk])) r j) := by
        cases e : Bc.bestTo (withJ h jl) b i with
        | none => rw [e] at hbv; exact hbv
        | some j => rw [e] at hbv; obtain ⟨r, e1, e2⟩ := hbv; exact ⟨r, e1, e2.mono s1⟩
      refine ⟨X, _, rfl, SqT.of upd_same, rfl, _, _, rfl, _, _, rfl, rfl, ?_⟩
      show tIfS _ _ _ _ _ _
      unfold tIfS tTest tOp
      refine ⟨_, rfl, rd_kind (T := T) rfl (hb.mono s01) ⟨rfl, _, rfl, ite2 (fun e1 => ?_) fun e1 => ?_⟩⟩
      · have e1 : kk = b.kind := by
          have := of_decide_eq_true e1
          injection this with this
          omega
        have bt := Bc.bestTo_yes (h := withJ h jl) (b := b) (i := i) (k := kk) hk e1
        generalize upd H' X (.tup [.int (i : Nat), V.int kk]) = H1 at s1 s01 hbv1 ⊢
        refine ⟨_, rfl, _, rfl, _, rfl, _, rfl, _, rfl, _, rfl, _, rfl, ?_⟩
        refine ⟨p, q, i, h, jl, rfl, c.mono s01, hj.mono s01, h64, fun H2 s2 => ?_⟩
        have s02 := s01.trans s2
        refine ⟨p, q, a, i, Kqv4.freeAt (withJ h jl) i, h, jl, b, rfl, c.mono s02, hj.mono s02, h64, hb.mono s02, fun H3 r s3 jr => ?_⟩
        have s03 := s02.trans s3
        have ej : Kqv4.jobIn (withJ h jl) b i = ⟨b, i, Kqv4.freeAt (withJ h jl) i, Kqv4.lifts (withJ h jl) (Kqv4.freeAt (withJ h jl) i + b.minutes)⟩ := rfl
        rw [← ej] at jr
        cases e : Bc.bestTo (withJ h jl) b i with
        | none =>
          rw [e] at hbv1 bt
          have hbv1 : bv = .non := hbv1
          subst hbv1
          refine ⟨_, rfl, _, rfl, iteT (iteT ⟨_, rfl, _, _, _, _, rfl, s03, ?_⟩)⟩
          rw [bt]
          exact ⟨r, rfl, jr⟩
        | some j0 =>
          rw [e] at hbv1 bt
          obtain ⟨r0, rfl, j0r⟩ := hbv1
          rw [Bc.pick_lift] at bt
          refine ⟨_, rfl, _, rfl, iteF ?_⟩
          refine rd_lifted (T := T) rfl jr (rd_lifted (T := T) rfl ((j0r.mono s2).mono s3) ⟨_, _, rfl, rfl, _, rfl, ite2 (fun lt => ?_) fun lt => ?_⟩)
          · have lt := of_decide_eq_true lt
            rw [if_pos (by omega)] at bt
            refine ⟨_, rfl, _, _, _, _, rfl, s03, ?_⟩
            rw [bt]
            exact ⟨r, rfl, jr⟩
          · have lt : ¬ ((Kqv4.jobIn (withJ h jl) b i).lift : Int) < (j0.lift : Int) := fun z => lt (decide_eq_true z)
            rw [if_neg (by omega)] at bt
            refine ⟨_, _, _, _, rfl, s03, ?_⟩
            rw [bt]
            exact ⟨r0, rfl, (j0r.mono s2).mono s3⟩
      · have e1 : ¬ kk = b.kind := fun z => e1 (decide_eq_true (by rw [z]))
        have bt := Bc.bestTo_no (h := withJ h jl) (b := b) (i := i) (k := kk) hk e1
        refine ⟨_, _, _, _, rfl, s01, ?_⟩
        rw [bt]
        exact hbv1
    · rintro σ H' ⟨bv, v4, v5, v6, rfl, sm, hbv⟩
      rw [List.length_map] at hbv
      have be : Kqv4.best (withJ h jl) b = Bc.bestTo (withJ h jl) b h.moulds.length := Bc.best_to (withJ h jl) b
      cases e : Bc.bestTo (withJ h jl) b h.moulds.length with
      | none =>
        rw [e] at hbv be
        have hbv : bv = .non := hbv
        subst hbv
        exact ⟨_, rfl, k2 H' sm be⟩
      | some j =>
        rw [e] at hbv be
        obtain ⟨r, rfl, jr⟩ := hbv
        exact ⟨_, rfl, k1 H' r j sm be jr⟩
end
end Bp
set_option Elab.async false
set_option linter.all false
set_option maxRecDepth 100000
set_option maxHeartbeats 2000000
namespace Bp
open PySem PySem.Spec PyProof.Rows L2 Bl
open Bc (withJ js_withJ gv Sl)
/-! ### a dict of objects by number -/
def kv {α : Type} (x : Nat × Addr × α) : Key × V := (Sum.inl (x.1 : Int), V.ref x.2.1)
def pr {α : Type} (x : Nat × Addr × α) : Nat × α := (x.1, x.2.2)
theorem inl_inj {a b : Nat} (h : (Sum.inl (a : Int) : Key) = Sum.inl (b : Int)) : a = b := by have := Sum.inl.inj h; omega
theorem val_none {α : Type} : ∀ {l : List (Nat × Addr × α)} {n : Nat}, (∀ x ∈ l, x.1 ≠ n) → valV (l.map kv) (Sum.inl (n : Int) : Key) = none
  | [], n, _ => rfl
  | x :: l, n, h => by
    rw [List.map_cons, valV_neg (fun e => h x (by simp) (inl_inj e))]
    exact val_none fun y hy => h y (by simp [hy])
theorem val_some {α : Type} : ∀ {l : List (Nat × Addr × α)} {n : Nat} {a : Addr} {y : α}, (l.map (·.1)).Nodup → (n, a, y) ∈ l → valV (l.map kv) (Sum.inl (n : Int) : Key) = some (.ref a)
  | [], _, _, _, _, h => by cases h
  | x :: l, n, a, y, nd, h => by
    rw [List.map_cons] at nd
    obtain ⟨n1, n2⟩ := List.nodup_cons.mp nd
    rw [List.map_cons]
    rcases List.mem_cons.mp h with e | e
    · rw [← e]
      exact valV_pos rfl
    · rw [valV_neg (fun z => n1 (by rw [inl_inj z]; exact List.mem_map.mpr ⟨_, e, rfl⟩))]
      exact val_some n2 e
theorem keys_pr {α : Type} (l : List (Nat × Addr × α)) : (l.map pr).map (·.1) = l.map (·.1) := by rw [List.map_map]; rfl
theorem dict_look {α : Type} {l : List (Nat × Addr × α)} {s : List (Option α)} (q : Sl (l.map pr) s) (n : Nat) :
    (gv s n = none ∧ valV (l.map kv) (Sum.inl (n : Int) : Key) = none) ∨ ∃ a y, (n, a, y) ∈ l ∧ gv s n = some y ∧ valV (l.map kv) (Sum.inl (n : Int) : Key) = some (.ref a) := by
  cases e : gv s n with
  | none =>
    refine .inl ⟨rfl, val_none fun x hx z => ?_⟩
    have := (q.mem x.1 x.2.2).mp (List.mem_map.mpr ⟨x, hx, rfl⟩)
    rw [z, e] at this
    cases this
  | some y =>
    obtain ⟨⟨i, a, y'⟩, hx, ex⟩ := List.mem_map.mp ((q.mem n y).mpr e)
    have e1 : i = n := congrArg Prod.fst ex
    have e2 : y' = y := congrArg Prod.snd ex
    subst e1 e2
    exact .inr ⟨a, y', hx, rfl, val_some (by rw [← keys_pr]; exact q.nd) hx⟩
theorem dict_drop {α : Type} (l : List (Nat × Addr × α)) (n : Nat) : dropK (l.map kv) (Sum.inl (n : Int) : Key) = (l.filter fun x => x.1 != n).map kv := by
  unfold dropK
  rw [List.filter_map]
  congr 1
  refine List.filter_congr fun x _ => ?_
  rw [Bool.eq_iff_iff]
  simp only [Function.comp_apply, decide_eq_true_eq, bne_iff_ne]
  constructor
  · intro h e; exact h (by show (Sum.inl (x.1 : Int) : Key) = _; rw [e])
  · intro h e; exact h (inl_inj e)
theorem dict_put {α : Type} {l : List (Nat × Addr × α)} {n : Nat} (a : Addr) (y : α) (h : valV (l.map kv) (Sum.inl (n : Int) : Key) = none) : putK (l.map kv) (Sum.inl (n : Int) : Key) (.ref a) = (l ++ [(n, a, y)]).map kv := by
  rw [putK_new _ h, List.map_append]
  rfl
theorem Sl.dropA {α : Type} {l : List (Nat × Addr × α)} {s : List (Option α)} (q : Sl (l.map pr) s) (n : Nat) : Sl ((l.filter fun x => x.1 != n).map pr) (s.set n none) := by
  have := q.drop n
  rw [List.filter_map] at this
  exact this
theorem Sl.putA {α : Type} {l : List (Nat × Addr × α)} {s : List (Option α)} (q : Sl (l.map pr) s) (a : Addr) (y : α) : Sl ((l ++ [(Kqv4.slot s, a, y)]).map pr) (Kqv4.putIn s y) := by
  have := q.put y
  rw [List.map_append]
  exact this
/-! ### the works -/
structure Ft where
  dx : Addr
  lm : Addr
  dw : Addr
  dj : Addr
section
variable {K : PySem.W.Frag} {mg : Str → Option Value} (T : Tx K mg)
structure Wk (H : Hp) (p : Addr) (st : Bool) (h : Kqv4.Hall) (f : Ft) (ws : List (Nat × Addr × Kqv4.Blade)) (jb : List (Nat × Addr × Kqv4.Job)) : Prop where
  o : H p = some (.ins T.Works.C f.dx (worksF st h f.lm f.dw f.dj))
  m : H f.lm = some (.lst (h.moulds.map fun (k : Nat) => V.int k))
  w : H f.dw = some (.dK (ws.map kv))
  j : H f.dj = some (.dK (jb.map kv))
  wa : ∀ x ∈ ws, BladeAt T H x.2.1 x.2.2
  ja : ∀ x ∈ jb, JobAt T h.lift h.clean H x.2.1 x.2.2
  sw : Sl (ws.map pr) h.waits
  sj : Sl (jb.map pr) h.jobs
  ne : f.dw ≠ f.dj
  l4 : h.moulds.length ≤ 4
  l5 : ws.length ≤ 5
  l12 : jb.length ≤ 12
variable {T}
theorem Wk.mono {H H' : Hp} (s : Same H H') {p : Addr} {st : Bool} {h : Kqv4.Hall} {f : Ft} {ws jb} (W : Wk T H p st h f ws jb) : Wk T H' p st h f ws jb :=
  ⟨s _ _ W.o, s _ _ W.m, s _ _ W.w, s _ _ W.j, fun x hx => (W.wa x hx).mono s, fun x hx => (W.ja x hx).mono s, W.sw, W.sj, W.ne, W.l4, W.l5, W.l12⟩
theorem Wk.cr {H : Hp} {p : Addr} {st : Bool} {h : Kqv4.Hall} {f : Ft} {ws jb} (W : Wk T H p st h f ws jb) : Cr T H p h := ⟨⟨st, f.dx, f.lm, f.dw, f.dj, W.o, W.m⟩⟩
theorem blade_ne {H : Hp} {a b : Addr} {x : Kqv4.Blade} {o : HO} (h : BladeAt T H a x) (e : H b = some o) (n : ∀ C dx, o ≠ .ins C dx (bladeF x)) : a ≠ b := let ⟨dx, q⟩ := h; ne_of q e (fun z => n _ dx z.symm)
theorem job_ne {H : Hp} {L Cn : Nat} {a b : Addr} {x : Kqv4.Job} {o : HO} (h : JobAt T L Cn H a x) (e : H b = some o) (n : ∀ C dx ba, o ≠ .ins C dx (jobF L Cn ba x)) : a ≠ b := let ⟨dx, ba, q, _⟩ := h; ne_of q e (fun z => n _ dx ba z.symm)
/-- another object written: blades and jobs stay -/
theorem BladeAt.upd {H : Hp} {a p : Addr} {x : Kqv4.Blade} {o u : HO} (h : BladeAt T H a x) (e : H p = some o) (n : ∀ C dx, o ≠ .ins C dx (bladeF x)) : BladeAt T (upd H p u) a x :=
  let ⟨dx, q⟩ := h; ⟨dx, by rw [upd_ne (blade_ne h e n)]; exact q⟩
theorem JobAt.upd {H : Hp} {L Cn : Nat} {a p : Addr} {x : Kqv4.Job} {o u : HO} (h : JobAt T L Cn H a x) (e : H p = some o) (n : ∀ C dx ba, o ≠ .ins C dx (jobF L Cn ba x)) (n2 : ∀ C dx, o ≠ .ins C dx (bladeF x.blade)) : JobAt T L Cn (L2.upd H p u) a x :=
  let ⟨dx, ba, q, r⟩ := h; ⟨dx, ba, by rw [upd_ne (job_ne h e n)]; exact q, r.upd e n2⟩
theorem dk_nb {kvs : List (Key × V)} {x : Kqv4.Blade} : ∀ C dx, HO.dK kvs ≠ .ins C dx (bladeF x) := fun _ _ z => nomatch z
theorem dk_nj {kvs : List (Key × V)} {L Cn : Nat} {x : Kqv4.Job} : ∀ C dx ba, HO.dK kvs ≠ .ins C dx (jobF L Cn ba x) := fun _ _ _ z => nomatch z
theorem lst_nb {xs : List V} {x : Kqv4.Blade} : ∀ C dx, HO.lst xs ≠ .ins C dx (bladeF x) := fun _ _ z => nomatch z
theorem lst_nj {xs : List V} {L Cn : Nat} {x : Kqv4.Job} : ∀ C dx ba, HO.lst xs ≠ .ins C dx (jobF L Cn ba x) := fun _ _ _ z => nomatch z
theorem wk_nb {C' dx' : Addr} {st : Bool} {h : Kqv4.Hall} {lm dw dj : Addr} {x : Kqv4.Blade} : ∀ C dx, HO.ins C' dx' (worksF st h lm dw dj) ≠ .ins C dx (bladeF x) := fun _ _ z => by
  injection z with _ _ z
  have := congrArg List.length z
  simp [worksF, bladeF] at this
theorem wk_nj {C' dx' : Addr} {st : Bool} {h : Kqv4.Hall} {lm dw dj : Addr} {L Cn : Nat} {x : Kqv4.Job} : ∀ C dx ba, HO.ins C' dx' (worksF st h lm dw dj) ≠ .ins C dx (jobF L Cn ba x) := fun _ _ _ z => by
  injection z with _ _ z
  have := congrArg List.length z
  simp [worksF, jobF] at this
end
end Bp
set_option Elab.async false
set_option linter.all false
set_option maxRecDepth 100000
set_option maxHeartbeats 2000000
namespace Bp
open PySem PySem.Spec PyProof.Rows L2 Bl
open Bc (withJ js_withJ gv Sl)
section
variable {P : Program} {w : World} {K : PySem.W.Frag} {mg : Str → Option Value} {base : Heap}
/-- the works made empty -/
structure Emp (T : Tx K mg) (H H' : Hp) (p dx : Addr) (st : Bool) (l c : Nat) (lm dw dj : Addr) : Prop where
  o : H' p = some (.ins T.Works.C dx (worksF st ⟨l, c, 0, [], [], [], 0⟩ lm dw dj))
  m : H' lm = some (.lst [])
  w : H' dw = some (.dK [])
  j : H' dj = some (.dK [])
  nm : H lm = none
  nw : H dw = none
  nj : H dj = none
  ne : dw ≠ dj
  fr : ∀ b o, H b = some o → b ≠ p → H' b = some o
def sp_Works_make_empty (T : Tx K mg) : Sp := fun vs H Q _ => ∃ (p dx : Addr) (l c : Nat) (st : Bool) (fs : List (Str × V)), vs = [.ref p, .int l, .int c] ∧ H p = some (.ins T.Works.C dx fs) ∧
  (fs = [(("started" : Str), V.bl st)] ∨ ∃ h lm dw dj, fs = worksF st h lm dw dj) ∧ ∀ H' lm dw dj, Emp T H H' p dx st l c lm dw dj → Q .non H'
theorem ok_Works_make_empty (T : Tx K mg) : FnOk P w K mg base CX0 1 T.Works_make_empty.f T.Works_make_empty.fd ["self", "lift", "clean"] (sp_Works_make_empty T) := by
  refine T.Works_make_empty.F.ok sc_Works_make_empty (fun vs H Q E h => ?_) (fun cdv A outer s H vs Q E hr h => ?_)
  · obtain ⟨p, dx, l, c, st, fs, rfl, _⟩ := h
    rfl
  · obtain ⟨p, dx, l, c, st, fs, rfl, hp, hfs, k⟩ := h
    have len : fs.length ≤ 8 := by
      rcases hfs with rfl | ⟨h, lm, dw, dj, rfl⟩
      · show 1 ≤ 8; decide
      · show 8 ≤ 8; decide
    have step : ∀ (f : Str) (v : V) (gs : List (Str × V)), (putF f v gs).length ≤ gs.length + 1 := length_putF
    refine ⟨_, (pss_cons (ps_fld (pv 0) (pv 1) rfl)
    (pss_cons (ps_fld (pv 0) (pv 2) rfl)
    (pss_cons (ps_fld (pv 0) pe_int rfl)
    (pss_cons (ps_fld (pv 0) (pe_lst pa_nil) rfl)
    (pss_cons (ps_fld (pv 0) pe_dnewK rfl)
    (pss_cons (ps_fld (pv 0) pe_dnewK rfl)
    (pss_one (ps_fld (pv 0) pe_int rfl)))))))), ?_⟩
    refine ⟨_, rfl, _, rfl, p, _, dx, fs, rfl, hp, T.Works.cl, T.n_Works_lift, by omega, ?_⟩
    refine ⟨_, rfl, _, rfl, p, _, dx, _, rfl, upd_same, T.Works.cl, T.n_Works_clean, by have := step "lift" (.int l) fs; omega, ?_⟩
    rw [L2.upd_upd]
    refine ⟨_, rfl, p, _, dx, _, rfl, upd_same, T.Works.cl, T.n_Works_minute, by have := step "lift" (.int l) fs; have := step "clean" (.int c) (putF "lift" (.int l) fs); omega, ?_⟩
    rw [L2.upd_upd]
    generalize e3 : putF "minute" (V.int 0) (putF "clean" (V.int c) (putF "lift" (V.int l) fs)) = f3
    have l3 : f3.length ≤ 11 := by rw [← e3]; have := step "lift" (.int l) fs; have := step "clean" (.int c) (putF "lift" (.int l) fs); have := step "minute" (.int 0) (putF "clean" (.int c) (putF "lift" (.int l) fs)); omega
    refine ⟨Nat.zero_le _, fun lm hlm => ?_⟩
    have npl : p ≠ lm := ne_of_none (H := upd H p (.ins T.Works.C dx f3)) upd_same hlm
    have hlm0 : H lm = none := by rw [upd_ne (Ne.symm npl)] at hlm; exact hlm
    refine ⟨_, rfl, p, _, dx, f3, rfl, by rw [upd_ne npl, upd_same], T.Works.cl, T.n_Works_moulds, by omega, ?_⟩
    intro dw hdw
    have npw : p ≠ dw := ne_of_none upd_same hdw
    have nlw : lm ≠ dw := ne_of_none (by rw [upd_ne (Ne.symm npl), upd_same]) hdw
    have hdw0 : H dw = none := by rw [upd_ne (Ne.symm npw), upd_ne (Ne.symm nlw), upd_ne (Ne.symm npw)] at hdw; exact hdw
    refine ⟨_, rfl, p, _, dx, _, rfl, by rw [upd_ne npw, upd_same], T.Works.cl, T.n_Works_waiting, by have := step "moulds" (.ref lm) f3; omega, ?_⟩
    intro dj hdj
    have npj : p ≠ dj := ne_of_none upd_same hdj
    have nwj : dw ≠ dj := ne_of_none (by rw [upd_ne (Ne.symm npw), upd_same]) hdj
    have nlj : lm ≠ dj := ne_of_none (by rw [upd_ne (Ne.symm npl), upd_ne nlw, upd_ne (Ne.symm npl), upd_same]) hdj
    have hdj0 : H dj = none := by rw [upd_ne (Ne.symm npj), upd_ne (Ne.symm nwj), upd_ne (Ne.symm npj), upd_ne (Ne.symm nlj), upd_ne (Ne.symm npj)] at hdj; exact hdj
    refine ⟨_, rfl, p, _, dx, _, rfl, by rw [upd_ne npj, upd_same], T.Works.cl, T.n_Works_jobs, by have := step "moulds" (.ref lm) f3; have := step "waiting" (.ref dw) (putF "moulds" (.ref lm) f3); omega, ?_⟩
    refine ⟨_, rfl, p, _, dx, _, rfl, upd_same, T.Works.cl, T.n_Works_done, by have := step "moulds" (.ref lm) f3; have := step "waiting" (.ref dw) (putF "moulds" (.ref lm) f3); have := step "jobs" (.ref dj) (putF "waiting" (.ref dw) (putF "moulds" (.ref lm) f3)); omega, ?_⟩
    rw [L2.upd_upd]
    refine k _ lm dw dj ⟨?_, ?_, ?_, ?_, hlm0, hdw0, hdj0, nwj, fun b o e hb => ?_⟩
    · rw [upd_same, ← e3]
      rcases hfs with rfl | ⟨h, lm', dw', dj', rfl⟩ <;> rfl
    · rw [upd_ne (Ne.symm npl), upd_ne nlj, upd_ne (Ne.symm npl), upd_ne nlw, upd_ne (Ne.symm npl), upd_same]
    · rw [upd_ne (Ne.symm npw), upd_ne nwj, upd_ne (Ne.symm npw), upd_same]
    · rw [upd_ne (Ne.symm npj), upd_same]
    · rw [upd_ne hb, upd_ne (ne_of_none e hdj0), upd_ne hb, upd_ne (ne_of_none e hdw0), upd_ne hb, upd_ne (ne_of_none e hlm0), upd_ne hb]
      exact e
def sp_Works_init (T : Tx K mg) : Sp := fun vs H Q _ => ∃ (p dx : Addr), vs = [.ref p] ∧ H p = some (.ins T.Works.C dx []) ∧ ∀ H' lm dw dj, Emp T H H' p dx false 0 0 lm dw dj → Q .non H'
theorem ok_Works_init (T : Tx K mg) : FnOk P w K mg base CX0 2 T.Works_init.f T.Works_init.fd ["self"] (sp_Works_init T) := by
  refine T.Works_init.F.ok sc_Works_init (fun vs H Q E h => ?_) (fun cdv A outer s H vs Q E hr h => ?_)
  · obtain ⟨p, dx, rfl, _⟩ := h
    rfl
  · obtain ⟨p, dx, rfl, hp, k⟩ := h
    refine ⟨_, (pss_cons (ps_fld (pv 0) pe_bl rfl)
    (pss_one (ps_expr (pe_md (pv 0) T.Works_make_empty (ok_Works_make_empty T) (hr.mono (by decide)) (pa_cons pe_int (pa_cons pe_int pa_nil)))))), ?_⟩
    refine ⟨_, rfl, p, _, dx, [], rfl, hp, T.Works.cl, T.n_Works_started, (by show 0 < 1000; decide), ?_⟩
    refine ⟨_, rfl, p, dx, _, rfl, upd_same, rfl, ?_⟩
    refine ⟨p, dx, 0, 0, false, _, rfl, upd_same, .inl rfl, fun H' lm dw dj e => ?_⟩
    have n : ∀ b, (upd H p (.ins T.Works.C dx (putF "started" (.bl false) []))) b = none → H b = none := fun b hb => by
      by_cases z : b = p
      · rw [z, upd_same] at hb; cases hb
      · rw [upd_ne z] at hb; exact hb
    exact k H' lm dw dj ⟨e.o, e.m, e.w, e.j, n _ e.nm, n _ e.nw, n _ e.nj, e.ne, fun b o q hb => e.fr b o (by rw [upd_ne hb]; exact q) hb⟩
/-! ### numbers -/
def sp_least_free_number (T : Tx K mg) : Sp := fun vs H Q _ => ∃ (α : Type) (d : Addr) (l : List (Nat × Addr × α)) (s : List (Option α)), vs = [.ref d] ∧ H d = some (.dK (l.map kv)) ∧ Sl (l.map pr) s ∧ Q (.int (Kqv4.slot s : Nat)) H
theorem ok_least_free_number (T : Tx K mg) : FnOk P w K mg base CX0 1 T.least_free_number.f T.least_free_number.fd ["taken"] (sp_least_free_number T) := by
  refine T.least_free_number.F.ok sc_least_free_number (fun vs H Q E h => ?_) (fun cdv A outer s H vs Q E hr h => ?_)
  · obtain ⟨α, d, l, s, rfl, _⟩ := h
    rfl
  · obtain ⟨α, d, l, sl, rfl, hd, q, k⟩ := h
    have hu := hu_of hr
    refine ⟨_, (pss_cons (ps_set (i := 1) sc_least_free_number.nd rfl (Or.inl rfl) pe_int)
    (pss_cons (ps_while PassesOwn.never (pt_cmp (pc_din hu (pv 1) (pv 0)))
    (pss_one (ps_aug (i := 1) sc_least_free_number.nd rfl (Or.inl rfl) pe_int ip_add)))
    (pss_one (ps_ret (pv 1))))), ?_⟩
    refine ⟨fun m σ H' => ∃ n : Nat, σ = [some (.ref d), some (.int n)] ∧ H' = H ∧ m = Kqv4.slot sl - n ∧ ∀ i, i < n → gv sl i ≠ none, ⟨_, 0, rfl, rfl, rfl, fun i hi => absurd hi (Nat.not_lt_zero i)⟩, ?_⟩
    rintro m σ H' ⟨n, rfl, rfl, rfl, hn⟩
    refine ⟨_, rfl, _, rfl, d, _, rfl, DGet.k (k := Sum.inl (n : Int)) hd, _, rfl, ?_⟩
    rcases dict_look q n with ⟨e, v⟩ | ⟨a, y, _, e, v⟩
    · rw [v]
      refine iteF ⟨_, rfl, ?_⟩
      rw [Bc.slot_eq sl e hn] at k
      exact k
    · rw [v]
      have lt := Bc.slot_next hn (by rw [e]; exact fun z => nomatch z)
      refine iteT ⟨fun σ' H'' => ∃ n' : Nat, σ' = [some (.ref d), some (.int n')] ∧ H'' = H' ∧ n' = n + 1 ∧ ∀ i, i < n' → gv sl i ≠ none, ?_, ?_⟩
      · rintro σ' H'' ⟨n', rfl, rfl, rfl, hn'⟩
        exact ⟨Kqv4.slot sl - (n + 1), by omega, n + 1, rfl, rfl, rfl, hn'⟩
      · refine ⟨_, rfl, _, _, rfl, rfl, n + 1, rfl, rfl, rfl, fun i hi => ?_⟩
        by_cases z : i = n
        · rw [z, e]; exact fun z => nomatch z
        · exact hn i (by omega)
end
end Bp
set_option Elab.async false
set_option linter.all false
set_option maxRecDepth 100000
set_option maxHeartbeats 2000000
namespace Bp
open PySem PySem.Spec PyProof.Rows L2 Bl
open Bc (withJ js_withJ gv Sl)
section
variable {K : PySem.W.Frag} {mg : Str → Option Value} {T : Tx K mg} {H : Hp} {p : Addr} {st : Bool} {h : Kqv4.Hall} {f : Ft} {ws : List (Nat × Addr × Kqv4.Blade)} {jb : List (Nat × Addr × Kqv4.Job)}
theorem Wk.pw (W : Wk T H p st h f ws jb) : p ≠ f.dw := ne_of W.o W.w (fun z => nomatch z)
theorem Wk.pj (W : Wk T H p st h f ws jb) : p ≠ f.dj := ne_of W.o W.j (fun z => nomatch z)
theorem Wk.pm (W : Wk T H p st h f ws jb) : p ≠ f.lm := ne_of W.o W.m (fun z => nomatch z)
theorem Wk.mw (W : Wk T H p st h f ws jb) : f.lm ≠ f.dw := ne_of W.m W.w (fun z => nomatch z)
theorem Wk.mj (W : Wk T H p st h f ws jb) : f.lm ≠ f.dj := ne_of W.m W.j (fun z => nomatch z)
/-- the dict of those that wait written -/
theorem Wk.setW (W : Wk T H p st h f ws jb) {ws' : List (Nat × Addr × Kqv4.Blade)} {wt : List (Option Kqv4.Blade)} (hb : ∀ x ∈ ws', BladeAt T H x.2.1 x.2.2) (s : Sl (ws'.map pr) wt) (l : ws'.length ≤ 5) :
    Wk T (upd H f.dw (.dK (ws'.map kv))) p st { h with waits := wt } f ws' jb :=
  ⟨by rw [upd_ne W.pw]; exact W.o, by rw [upd_ne W.mw]; exact W.m, upd_same, by rw [upd_ne (Ne.symm W.ne)]; exact W.j, fun x hx => (hb x hx).upd W.w dk_nb, fun x hx => (W.ja x hx).upd W.w dk_nj dk_nb, s, W.sj, W.ne, W.l4, l, W.l12⟩
theorem Wk.setJ (W : Wk T H p st h f ws jb) {jb' : List (Nat × Addr × Kqv4.Job)} {jt : List (Option Kqv4.Job)} (hb : ∀ x ∈ jb', JobAt T h.lift h.clean H x.2.1 x.2.2) (s : Sl (jb'.map pr) jt) (l : jb'.length ≤ 12) :
    Wk T (upd H f.dj (.dK (jb'.map kv))) p st { h with jobs := jt } f ws jb' :=
  ⟨by rw [upd_ne W.pj]; exact W.o, by rw [upd_ne W.mj]; exact W.m, by rw [upd_ne W.ne]; exact W.w, upd_same, fun x hx => (W.wa x hx).upd W.j dk_nb, fun x hx => (hb x hx).upd W.j dk_nj dk_nb, W.sw, s, W.ne, W.l4, W.l5, l⟩
theorem Wk.addW (W : Wk T H p st h f ws jb) {a : Addr} {b : Kqv4.Blade} (hb : BladeAt T H a b) (l : ws.length ≤ 4) :
    Wk T (upd H f.dw (.dK ((ws ++ [(Kqv4.slot h.waits, a, b)]).map kv))) p st { h with waits := Kqv4.putIn h.waits b } f (ws ++ [(Kqv4.slot h.waits, a, b)]) jb :=
  W.setW (fun x hx => by
    rcases List.mem_append.mp hx with q | q
    · exact W.wa x q
    · rw [show x = (Kqv4.slot h.waits, a, b) by simpa using q]; exact hb) (Sl.putA W.sw a b) (by rw [List.length_append]; show _ + 1 ≤ 5; omega)
theorem Wk.dropW (W : Wk T H p st h f ws jb) (n : Nat) : Wk T (upd H f.dw (.dK ((ws.filter fun x => x.1 != n).map kv))) p st { h with waits := h.waits.set n none } f (ws.filter fun x => x.1 != n) jb :=
  W.setW (fun x hx => W.wa x (List.mem_filter.mp hx).1) (Sl.dropA W.sw n) (Nat.le_trans (List.length_filter_le _ _) W.l5)
theorem Wk.addJ (W : Wk T H p st h f ws jb) {a : Addr} {j : Kqv4.Job} (hb : JobAt T h.lift h.clean H a j) (l : jb.length ≤ 11) :
    Wk T (upd H f.dj (.dK ((jb ++ [(Kqv4.slot h.jobs, a, j)]).map kv))) p st { h with jobs := Kqv4.putIn h.jobs j } f ws (jb ++ [(Kqv4.slot h.jobs, a, j)]) :=
  W.setJ (fun x hx => by
    rcases List.mem_append.mp hx with q | q
    · exact W.ja x q
    · rw [show x = (Kqv4.slot h.jobs, a, j) by simpa using q]; exact hb) (Sl.putA W.sj a j) (by rw [List.length_append]; show _ + 1 ≤ 12; omega)
theorem Wk.dropJ (W : Wk T H p st h f ws jb) (n : Nat) : Wk T (upd H f.dj (.dK ((jb.filter fun x => x.1 != n).map kv))) p st { h with jobs := h.jobs.set n none } f ws (jb.filter fun x => x.1 != n) :=
  W.setJ (fun x hx => W.ja x (List.mem_filter.mp hx).1) (Sl.dropA W.sj n) (Nat.le_trans (List.length_filter_le _ _) W.l12)
variable {i : Nat} {σ : L2.St} {Q : VK}
theorem rd_waiting (hs : σ[i]? = some (some (.ref p))) (W : Wk T H p st h f ws jb) (q : Q (.ref f.dw) H) : tFld K (tVar i) "waiting" σ H Q :=
  ⟨_, hs, p, _, _, _, _, rfl, W.o, T.Works.cl, T.n_Works_waiting, f_works_waiting .., q⟩
theorem rd_jobs (hs : σ[i]? = some (some (.ref p))) (W : Wk T H p st h f ws jb) (q : Q (.ref f.dj) H) : tFld K (tVar i) "jobs" σ H Q :=
  ⟨_, hs, p, _, _, _, _, rfl, W.o, T.Works.cl, T.n_Works_jobs, f_works_jobs .., q⟩
theorem rd_started (hs : σ[i]? = some (some (.ref p))) (W : Wk T H p st h f ws jb) (q : Q (.bl st) H) : tFld K (tVar i) "started" σ H Q :=
  ⟨_, hs, p, _, _, _, _, rfl, W.o, T.Works.cl, T.n_Works_started, f_works_started .., q⟩
theorem small12 {n : Nat} (h : n ≤ 12) : n < sizeLine := by rw [sizeLine_eq]; omega
end
section
variable {P : Program} {w : World} {K : PySem.W.Frag} {mg : Str → Option Value} {base : Heap}
def sp_add_waiting (T : Tx K mg) : Sp := fun vs H Q _ => ∃ (p a : Addr) (st : Bool) (h : Kqv4.Hall) (f : Ft) (ws : List (Nat × Addr × Kqv4.Blade)) (jb : List (Nat × Addr × Kqv4.Job)), vs = [.ref p, .ref a] ∧ Wk T H p st h f ws jb ∧ ws.length ≤ 4 ∧
  ∀ b : Kqv4.Blade, Q (.int (Kqv4.slot h.waits : Nat)) (upd H f.dw (.dK ((ws ++ [(Kqv4.slot h.waits, a, b)]).map kv)))
theorem ok_add_waiting (T : Tx K mg) : FnOk P w K mg base CX0 2 T.add_waiting.f T.add_waiting.fd ["works", "blade"] (sp_add_waiting T) := by
  refine T.add_waiting.F.ok sc_add_waiting (fun vs H Q E h => ?_) (fun cdv A outer s H vs Q E hr h => ?_)
  · obtain ⟨p, a, st, h, f, ws, jb, rfl, _⟩ := h
    rfl
  · obtain ⟨p, a, st, h, f, ws, jb, rfl, W, l4, k⟩ := h
    have hu := hu_of hr
    refine ⟨_, (pss_cons (ps_set (i := 2) sc_add_waiting.nd rfl (Or.inl rfl) (pe_dn T.least_free_number (ok_least_free_number T) (hr.mono (by decide)) (by rfl) (pa_cons (pe_fld (pv 0) rfl) pa_nil)))
    (pss_cons (ps_dput hu (pe_fld (pv 0) rfl) (pv 2) (pv 1) rfl)
    (pss_one (ps_ret (pv 2))))), ?_⟩
    refine rd_waiting (T := T) rfl W ?_
    refine ⟨Kqv4.Blade, f.dw, ws, h.waits, rfl, W.w, W.sw, ?_⟩
    refine ⟨_, rfl, rd_waiting (T := T) rfl W ⟨_, rfl, f.dw, _, rfl, DPut.k (k := Sum.inl (Kqv4.slot h.waits : Int)) W.w (by rw [List.length_map]; exact small12 (by omega)), _, rfl, ?_⟩⟩
    have v : valV (ws.map kv) (Sum.inl (Kqv4.slot h.waits : Int) : Key) = none := by
      rcases dict_look W.sw (Kqv4.slot h.waits) with ⟨_, v⟩ | ⟨_, _, _, e, _⟩
      · exact v
      · rw [Bc.slot_none] at e; cases e
    rw [dict_put a ⟨0, 0⟩ v]
    exact k ⟨0, 0⟩
def sp_make_job (T : Tx K mg) : Sp := fun vs H Q _ => ∃ (p a r : Addr) (n : Nat) (b : Kqv4.Blade) (j : Kqv4.Job) (st : Bool) (h : Kqv4.Hall) (f : Ft) (ws : List (Nat × Addr × Kqv4.Blade)) (jb : List (Nat × Addr × Kqv4.Job)), vs = [.ref p, .int n, .ref r] ∧ Wk T H p st h f ws jb ∧ (n, a, b) ∈ ws ∧ JobAt T h.lift h.clean H r j ∧ jb.length ≤ 11 ∧
  ∀ H', Wk T H' p st (Bc.addJ h n j) f (ws.filter fun x => x.1 != n) (jb ++ [(Kqv4.slot h.jobs, r, j)]) → JobAt T h.lift h.clean H' r j → (∀ c o, H c = some o → c ≠ f.dw → c ≠ f.dj → H' c = some o) → Q (.int (Kqv4.slot h.jobs : Nat)) H'
theorem ok_make_job (T : Tx K mg) : FnOk P w K mg base CX0 2 T.make_job.f T.make_job.fd ["works", "waiting_number", "job"] (sp_make_job T) := by
  refine T.make_job.F.ok sc_make_job (fun vs H Q E h => ?_) (fun cdv A outer s H vs Q E hr h => ?_)
  · obtain ⟨p, a, r, n, b, j, st, h, f, ws, jb, rfl, _⟩ := h
    rfl
  · obtain ⟨p, a, r, n, b, j, st, h, f, ws, jb, rfl, W, hn, hj, l11, k⟩ := h
    have hu := hu_of hr
    refine ⟨_, (pss_cons (ps_expr (pe_dpop1 (pe_fld (pv 0) rfl) (pv 1) ⟨rfl, rfl, rfl, rfl⟩))
    (pss_cons (ps_set (i := 3) sc_make_job.nd rfl (Or.inl rfl) (pe_dn T.least_free_number (ok_least_free_number T) (hr.mono (by decide)) (by rfl) (pa_cons (pe_fld (pv 0) rfl) pa_nil)))
    (pss_cons (ps_dput hu (pe_fld (pv 0) rfl) (pv 3) (pv 2) rfl)
    (pss_one (ps_ret (pv 3)))))), ?_⟩
    have v := val_some (by rw [← keys_pr]; exact W.sw.nd) hn
    show tDPop1 _ _ _ _ _
    unfold tDPop1
    refine rd_waiting (T := T) rfl W ?_
    refine ⟨f.dw, rfl, .inl ⟨_, .inl W.w⟩, _, rfl, _, Sum.inl (n : Int), _, W.w, rfl, v, ?_⟩
    rw [dict_drop]
    have W1 := W.dropW n
    have j1 : JobAt T h.lift h.clean (upd H f.dw (.dK ((ws.filter fun x => x.1 != n).map kv))) r j := hj.upd W.w dk_nj dk_nb
    refine rd_jobs (T := T) rfl W1 ?_
    refine ⟨Kqv4.Job, f.dj, jb, h.jobs, rfl, W1.j, W1.sj, ?_⟩
    refine ⟨_, rfl, rd_jobs (T := T) rfl W1 ⟨_, rfl, f.dj, _, rfl, DPut.k (k := Sum.inl (Kqv4.slot h.jobs : Int)) W1.j (by rw [List.length_map]; exact small12 (by omega)), _, rfl, ?_⟩⟩
    have v2 : valV (jb.map kv) (Sum.inl (Kqv4.slot h.jobs : Int) : Key) = none := by
      rcases dict_look W.sj (Kqv4.slot h.jobs) with ⟨_, v⟩ | ⟨_, _, _, e, _⟩
      · exact v
      · rw [Bc.slot_none] at e; cases e
    rw [dict_put r j v2]
    refine k _ (W1.addJ j1 l11) (j1.upd W1.j dk_nj dk_nb) fun c o e h1 h2 => ?_
    rw [upd_ne h2, upd_ne h1]
    exact e
def sp_make_waiting (T : Tx K mg) : Sp := fun vs H Q _ => ∃ (p r : Addr) (n : Nat) (j : Kqv4.Job) (st : Bool) (h : Kqv4.Hall) (f : Ft) (ws : List (Nat × Addr × Kqv4.Blade)) (jb : List (Nat × Addr × Kqv4.Job)), vs = [.ref p, .int n] ∧ Wk T H p st h f ws jb ∧ (n, r, j) ∈ jb ∧ ws.length ≤ 4 ∧
  ∀ H' ws' jb', Wk T H' p st { h with jobs := h.jobs.set n none, waits := Kqv4.putIn h.waits j.blade } f ws' jb' → (∀ c o, H c = some o → c ≠ f.dw → c ≠ f.dj → H' c = some o) → Q (.int (Kqv4.slot h.waits : Nat)) H'
theorem ok_make_waiting (T : Tx K mg) : FnOk P w K mg base CX0 3 T.make_waiting.f T.make_waiting.fd ["works", "job_number"] (sp_make_waiting T) := by
  refine T.make_waiting.F.ok sc_make_waiting (fun vs H Q E h => ?_) (fun cdv A outer s H vs Q E hr h => ?_)
  · obtain ⟨p, r, n, j, st, h, f, ws, jb, rfl, _⟩ := h
    rfl
  · obtain ⟨p, r, n, j, st, h, f, ws, jb, rfl, W, hn, l4, k⟩ := h
    refine ⟨_, (pss_cons (ps_set (i := 2) sc_make_waiting.nd rfl (Or.inl rfl) (pe_dpop1 (pe_fld (pv 0) rfl) (pv 1) ⟨rfl, rfl, rfl, rfl⟩))
    (pss_one (ps_ret (pe_dn T.add_waiting (ok_add_waiting T) (hr.mono (by decide)) (by rfl) (pa_cons (pv 0) (pa_cons (pe_fld (pv 2) rfl) pa_nil)))))), ?_⟩
    have v := val_some (by rw [← keys_pr]; exact W.sj.nd) hn
    show tDPop1 _ _ _ _ _
    unfold tDPop1
    refine rd_jobs (T := T) rfl W ?_
    refine ⟨f.dj, rfl, .inl ⟨_, .inl W.j⟩, _, rfl, _, Sum.inl (n : Int), _, W.j, rfl, v, ?_⟩
    rw [dict_drop]
    have W1 := W.dropJ n
    have j1 : JobAt T h.lift h.clean (upd H f.dj (.dK ((jb.filter fun x => x.1 != n).map kv))) r j := (W.ja _ hn).upd W.j dk_nj dk_nb
    refine ⟨_, rfl, rd_blade (T := T) rfl j1 fun ba hb => ?_⟩
    refine ⟨p, ba, st, _, f, ws, _, rfl, W1, l4, fun b => ?_⟩
    have e : ∀ b' : Kqv4.Blade, ((ws ++ [(Kqv4.slot h.waits, ba, b')]).map kv) = ((ws ++ [(Kqv4.slot h.waits, ba, j.blade)]).map kv) := fun b' => by rw [List.map_append, List.map_append]; rfl
    show Q _ (upd _ f.dw (.dK ((ws ++ [(Kqv4.slot h.waits, ba, b)]).map kv)))
    rw [e b]
    refine k _ _ _ (W1.addW hb l4) fun c o q h1 h2 => ?_
    rw [upd_ne h1, upd_ne h2]
    exact q
end
end Bp
set_option Elab.async false
set_option linter.all false
set_option maxRecDepth 100000
set_option maxHeartbeats 2000000
namespace Bp
open PySem PySem.Spec PyProof.Rows L2 Bl
open Bc (withJ js_withJ gv Sl js)
section
variable {K : PySem.W.Frag} {mg : Str → Option Value} (T : Tx K mg)
/-- what of the works is asked of one that waits -/
structure WkR (H : Hp) (p : Addr) (h : Kqv4.Hall) (ws : List (Nat × Addr × Kqv4.Blade)) : Prop where
  ex : ∃ st dx lm dw dj, H p = some (.ins T.Works.C dx (worksF st h lm dw dj)) ∧ H lm = some (.lst (h.moulds.map fun (k : Nat) => V.int k)) ∧ Rd H dw (.dK (ws.map kv))
  wa : ∀ x ∈ ws, BladeAt T H x.2.1 x.2.2
  sw : Sl (ws.map pr) h.waits
variable {T}
theorem Wk.rd {H : Hp} {p : Addr} {st : Bool} {h : Kqv4.Hall} {f : Ft} {ws jb} (W : Wk T H p st h f ws jb) : WkR T H p h ws := ⟨⟨st, f.dx, f.lm, f.dw, f.dj, W.o, W.m, .inl W.w⟩, W.wa, W.sw⟩
theorem WkR.cr {H : Hp} {p : Addr} {h : Kqv4.Hall} {ws} (W : WkR T H p h ws) : Cr T H p h := let ⟨st, dx, lm, dw, dj, e, m, _⟩ := W.ex; ⟨⟨st, dx, lm, dw, dj, e, m⟩⟩
theorem WkR.mono {H H' : Hp} (s : Same H H') {p : Addr} {h : Kqv4.Hall} {ws} (W : WkR T H p h ws) : WkR T H' p h ws :=
  ⟨let ⟨st, dx, lm, dw, dj, e, m, r⟩ := W.ex; ⟨st, dx, lm, dw, dj, s _ _ e, s _ _ m, r.elim (fun z => .inl (s _ _ z)) fun ⟨o, z⟩ => .inr ⟨o, s _ _ z⟩⟩, fun x hx => (W.wa x hx).mono s, W.sw⟩
theorem rdR_waiting {i : Nat} {σ : L2.St} {Q : VK} {H : Hp} {p : Addr} {h : Kqv4.Hall} {ws} (hs : σ[i]? = some (some (.ref p))) (W : WkR T H p h ws) (q : ∀ dw, Rd H dw (.dK (ws.map kv)) → Q (.ref dw) H) : tFld K (tVar i) "waiting" σ H Q :=
  let ⟨_, _, _, dw, _, e, _, r⟩ := W.ex; ⟨_, hs, p, _, _, _, _, rfl, e, T.Works.cl, T.n_Works_waiting, f_works_waiting .., q dw r⟩
theorem rd_wget {i i' : Nat} {σ : L2.St} {Q : VK} {H : Hp} {p : Addr} {h : Kqv4.Hall} {ws} {n : Nat} {a : Addr} {b : Kqv4.Blade} (hs : σ[i]? = some (some (.ref p))) (hn : σ[i']? = some (some (.int n))) (W : WkR T H p h ws) (m : (n, a, b) ∈ ws) (q : Q (.ref a) H) : tDGet (tFld K (tVar i) "waiting") (tVar i') σ H Q := by
  show tFld _ _ _ _ _ _
  have v := val_some (by rw [← keys_pr]; exact W.sw.nd) m
  exact rdR_waiting hs W fun dw rd => ⟨_, hn, dw, .ref a, rfl, .inl ⟨_, Sum.inl (n : Int), rd, rfl, v.symm⟩, q⟩
theorem mem_ws {H : Hp} {p : Addr} {h : Kqv4.Hall} {ws} (W : WkR T H p h ws) {n : Nat} {b : Kqv4.Blade} (e : gv h.waits n = some b) : ∃ a, (n, a, b) ∈ ws := by
  rcases dict_look W.sw n with ⟨e', _⟩ | ⟨a, y, m, e', _⟩
  · rw [e] at e'; cases e'
  · rw [e] at e'
    exact ⟨a, by rw [Option.some.inj e']; exact m⟩
theorem Wk.jobsAt {H : Hp} {p : Addr} {st : Bool} {h : Kqv4.Hall} {f : Ft} {ws jb} (W : Wk T H p st h f ws jb) {l : Addr} (hl : H l = none) : JobsAt T h (upd H l (.lst ((jb.map kv).map fun q => q.2))) l (jb.map fun x => x.2.2) := by
  refine ⟨jb.map fun x => x.2.1, by rw [upd_same, List.map_map, List.map_map]; rfl, ?_⟩
  have sm := same_new (o := .lst ((jb.map kv).map fun q => q.2)) hl
  have : ∀ (js : List (Nat × Addr × Kqv4.Job)), (∀ x ∈ js, x ∈ jb) → Paired (JobAt T h.lift h.clean (upd H l (.lst ((jb.map kv).map fun q => q.2)))) (js.map fun x => x.2.1) (js.map fun x => x.2.2) := by
    intro js
    induction js with
    | nil => intro _; exact .nil
    | cons x js ih => intro hx; exact .cons ((W.ja x (hx x (by simp))).mono sm) (ih fun y hy => hx y (by simp [hy]))
  exact this jb fun _ h => h
theorem Wk.jsPerm {H : Hp} {p : Addr} {st : Bool} {h : Kqv4.Hall} {f : Ft} {ws jb} (W : Wk T H p st h f ws jb) : (jb.map fun x => x.2.2).Perm (js h) := by
  have := Bc.js_perm W.sj
  rw [List.map_map] at this
  exact this
theorem paired_snoc {α β : Type} {R : α → β → Prop} : ∀ {l : List α} {m : List β} {x : α} {y : β}, Paired R l m → R x y → Paired R (l ++ [x]) (m ++ [y])
  | _, _, _, _, .nil, r => .cons r .nil
  | _, _, _, _, .cons q t, r => .cons q (paired_snoc t r)
end
section
variable {P : Program} {w : World} {K : PySem.W.Frag} {mg : Str → Option Value} {base : Heap}
def sp_all_jobs (T : Tx K mg) : Sp := fun vs H Q _ => ∃ (p : Addr) (st : Bool) (h : Kqv4.Hall) (f : Ft) (ws : List (Nat × Addr × Kqv4.Blade)) (jb : List (Nat × Addr × Kqv4.Job)), vs = [.ref p] ∧ Wk T H p st h f ws jb ∧
  ∀ l H', H l = none → Same H H' → JobsAt T h H' l (jb.map fun x => x.2.2) → Q (.ref l) H'
theorem ok_all_jobs (T : Tx K mg) : FnOk P w K mg base CX0 1 T.all_jobs.f T.all_jobs.fd ["works"] (sp_all_jobs T) := by
  refine T.all_jobs.F.ok sc_all_jobs (fun vs H Q E h => ?_) (fun cdv A outer s H vs Q E hr h => ?_)
  · obtain ⟨p, st, h, f, ws, jb, rfl, _⟩ := h
    rfl
  · obtain ⟨p, st, h, f, ws, jb, rfl, W, k⟩ := h
    refine ⟨_, (pss_one (ps_ret (pe_listVals rfl (by rfl) T.b_list (pe_fld (pv 0) rfl)))), ?_⟩
    show tFld _ _ _ _ _ _
    exact rd_jobs (T := T) rfl W ⟨f.dj, _, rfl, W.j, fun l hl => k l _ hl (same_new hl) (W.jobsAt hl)⟩
def sp_is_mould (T : Tx K mg) : Sp := fun vs H Q _ => ∃ (p : Addr) (n : Nat) (h : Kqv4.Hall), vs = [.ref p, .int n] ∧ Cr T H p h ∧ Q (.bl (decide (n < h.moulds.length))) H
theorem ok_is_mould (T : Tx K mg) : FnOk P w K mg base CX0 1 T.is_mould.f T.is_mould.fd ["works", "number"] (sp_is_mould T) := by
  refine T.is_mould.F.ok sc_is_mould (fun vs H Q E h => ?_) (fun cdv A outer s H vs Q E hr h => ?_)
  · obtain ⟨p, n, h, rfl, _⟩ := h
    rfl
  · obtain ⟨p, n, h, rfl, c, k⟩ := h
    refine ⟨_, (pss_one (ps_ret (pe_cmpR op_lt (pv 1) (pe_callB call_len_seq (by rfl) T.b_len PySem.boot_len (pa_cons (pe_fld (pv 0) rfl) pa_nil)) (nomark _)))), ?_⟩
    refine ⟨_, rfl, rd_moulds (T := T) rfl c fun lm hm => ⟨lm, _, rfl, .inl (SqL.of hm), _, _, rfl, rfl, ?_⟩⟩
    have e : decide ((n : Int) < ((h.moulds.map fun (k : Nat) => V.int k).length : Int)) = decide (n < h.moulds.length) := by
      rw [List.length_map, Bool.eq_iff_iff, decide_eq_true_iff, decide_eq_true_iff]
      omega
    show Q (.bl (decide ((n : Int) < ((h.moulds.map fun (k : Nat) => V.int k).length : Int)))) H
    rw [e]
    exact k
def sp_can_be_put (T : Tx K mg) : Sp := fun vs H Q _ => ∃ (p : Addr) (n : Nat) (h : Kqv4.Hall) (ws : List (Nat × Addr × Kqv4.Blade)), vs = [.ref p, .int n] ∧ WkR T H p h ws ∧
  (∀ b, gv h.waits n = some b → Q (.bl (decide (b.kind ∈ h.moulds))) H) ∧ (gv h.waits n = none → Q (.bl false) H)
theorem ok_can_be_put (T : Tx K mg) : FnOk P w K mg base CX0 2 T.can_be_put.f T.can_be_put.fd ["works", "number"] (sp_can_be_put T) := by
  refine T.can_be_put.F.ok sc_can_be_put (fun vs H Q E h => ?_) (fun cdv A outer s H vs Q E hr h => ?_)
  · obtain ⟨p, n, h, ws, rfl, _⟩ := h
    rfl
  · obtain ⟨p, n, h, ws, rfl, W, k1, k2⟩ := h
    have hu := hu_of hr
    refine ⟨_, (pss_one (ps_ret (pe_and (pe_cmp (pc_din hu (pv 1) (pe_fld (pv 0) rfl))) (pe_one (pe_dn T.has_mould (ok_has_mould T) (hr.mono (by decide)) (by rfl) (pa_cons (pv 0) (pa_cons (pe_dget hu (pe_fld (pv 0) rfl) (pv 1) (fun _ _ => rfl)) pa_nil))))))), ?_⟩
    refine ⟨_, rfl, rdR_waiting (T := T) rfl W fun dw rd => ⟨dw, _, rfl, .inl ⟨_, Sum.inl (n : Int), rd, rfl, rfl⟩, _, rfl, ?_⟩⟩
    rcases dict_look W.sw n with ⟨e, v⟩ | ⟨a, b, m, e, v⟩
    · rw [v]
      exact iteF (k2 e)
    · rw [v]
      refine iteT ⟨_, rfl, rd_wget (T := T) rfl rfl W m ?_⟩
      exact ⟨p, a, h, b, rfl, W.cr, W.wa _ m, k1 b e⟩
def sp_end_of_order (T : Tx K mg) : Sp := fun vs H Q _ => ∃ (p q : Addr) (l : List Nat) (g : Kqv4.Hall) (st : Bool) (h : Kqv4.Hall) (f : Ft) (ws : List (Nat × Addr × Kqv4.Blade)) (jb : List (Nat × Addr × Kqv4.Job)), vs = [.ref p, .ref q] ∧ Wk T H p st h f ws jb ∧ H q = some (.lst (l.map fun (k : Nat) => V.int k)) ∧ l.length ≤ 5 ∧ Kqv4.puts h l = some g ∧
  ∀ H', Same H H' → Q (.int (Kqv4.over g)) H'
theorem ok_end_of_order (T : Tx K mg) : FnOk P w K mg base CX0 5 T.end_of_order.f T.end_of_order.fd ["works", "order"] (sp_end_of_order T) := by
  refine T.end_of_order.F.ok sc_end_of_order (fun vs H Q E h => ?_) (fun cdv A outer s H vs Q E hr h => ?_)
  · obtain ⟨p, q, l, g, st, h, f, ws, jb, rfl, _⟩ := h
    rfl
  · obtain ⟨p, q, l, g, st, h, f, ws, jb, rfl, W, hq, l5, hg, k⟩ := h
    have hu := hu_of hr
    refine ⟨_, (pss_cons (ps_set (i := 2) sc_end_of_order.nd rfl (Or.inl rfl) (pe_dn T.all_jobs (ok_all_jobs T) (hr.mono (by decide)) (by rfl) (pa_cons (pv 0) pa_nil)))
    (pss_cons (ps_for PassesOwn.never rfl (pi_list (pv 1)) (pg_name (i := 3) sc_end_of_order.nd rfl (Or.inl rfl))
    (pss_one (ps_expr (pe_bm PySem.F.plainAttrs_list PySem.F.slot_list_append PySem.F.type_list_append mt_append (pv 2) (pa_cons (pe_dn T.best_job (ok_best_job T) (hr.mono (by decide)) (by rfl) (pa_cons (pv 0) (pa_cons (pv 2) (pa_cons (pe_dget hu (pe_fld (pv 0) rfl) (pv 3) (fun _ _ => rfl)) pa_nil)))) pa_nil)))))
    (pss_one (ps_ret (pe_dn T.last_out (ok_last_out T) (hr.mono (by decide)) (by rfl) (pa_cons (pv 0) (pa_cons (pv 2) pa_nil))))))), ?_⟩
    refine ⟨_, rfl, p, st, h, f, ws, jb, rfl, W, fun l' H0 hl s1 J0 => ?_⟩
    refine ⟨_, rfl, q, rfl, ⟨_, SqL.of (s1 _ _ hq)⟩, for_list (K := K) (a := q) (xs := l.map fun (k : Nat) => V.int k) (fun i σ H' => ∃ (v : Option V) (gi : Kqv4.Hall) (jl : List Kqv4.Job), σ = [some (.ref p), some (.ref q), some (.ref l'), v] ∧ Same H H' ∧ Kqv4.puts h (l.take i) = some gi ∧ jl.Perm (js gi) ∧ JobsAt T h H' l' jl ∧ jl.length ≤ 12 + i)
      ⟨none, h, _, rfl, s1, rfl, W.jsPerm, J0, by rw [List.length_map]; exact W.l12⟩ (fun i σ H' _ ⟨_, _, _, _, sm, _⟩ => SqL.of (sm _ _ hq)) ?_ ?_⟩
    · rintro i y σ H' hi ⟨v, gi, jl, rfl, sm, hgi, pm, J, jlen⟩
      rw [List.getElem?_map] at hi
      obtain ⟨n, hn, rfl⟩ := Option.map_eq_some_iff.mp hi
      obtain ⟨b, j, hb, hj, hp', L, hk⟩ := Bc.puts_step hg hn hgi
      have Wi := W.rd.mono sm
      obtain ⟨a, ma⟩ := mem_ws Wi hb
      have hil : i < l.length := (List.getElem?_eq_some_iff.mp hn).1
      have sim := Bc.sim_withJ L pm
      obtain ⟨as, has, pas⟩ := id J
      refine ⟨_, rfl, .inl ⟨rfl, _, SqL.of has⟩, _, rfl, _, rfl, rd_wget (T := T) rfl rfl Wi ma ?_⟩
      refine ⟨p, l', a, h, jl, b, rfl, Wi.cr, J, by omega, Wi.wa _ ma, fun H2 r j' s2 e jr => ?_, fun H2 s2 e => ?_⟩
      · rw [sim.best, hj] at e
        have e : j = j' := Option.some.inj e
        subst e
        have has2 := s2 _ _ has
        have alen : as.length = jl.length := Paired.length pas
        refine ⟨l', _, _, rfl, rfl, has2, by rw [List.length_map, sizeLine_eq]; omega, ?_⟩
        refine ⟨_, Bc.addJ gi n j, jl ++ [j], rfl, fun c o e => ?_, hp', ((pm.append_right [j]).trans (Bc.js_addJ gi n j).symm), ⟨as ++ [r], by rw [upd_same, List.map_append]; rfl, paired_snoc (paired_mono (fun _ _ z => (z.mono s2).upd has2 lst_nj lst_nb) pas) (jr.upd has2 lst_nj lst_nb)⟩, by rw [List.length_append]; show _ + 1 ≤ _; omega⟩
        rw [upd_ne (ne_of_none e hl)]
        exact s2 _ _ (sm _ _ e)
      · rw [sim.best, hj] at e
        cases e
    · rintro σ H' ⟨v, gi, jl, rfl, sm, hgi, pm, J, jlen⟩
      rw [List.length_map] at hgi jlen
      rw [List.take_length, hg] at hgi
      have hgi : g = gi := Option.some.inj hgi
      subst hgi
      obtain ⟨L, _⟩ := Bc.puts_like _ _ _ hg
      refine ⟨_, rfl, _, rfl, p, l', h, jl, rfl, W.cr.mono sm, J, by omega, fun H2 s2 => ?_⟩
      rw [(Bc.sim_withJ L pm).over]
      exact k _ (sm.trans s2)
end
end Bp
set_option Elab.async false
set_option linter.all false
set_option maxRecDepth 100000
set_option maxHeartbeats 2000000
namespace Bp
open PySem PySem.Spec PyProof.Rows L2 Bl
open Bc (withJ js_withJ gv Sl js)
def nums (l : List Nat) : List V := l.map fun (k : Nat) => V.int k
/-- what was found so far -/
def FoundAt (H : Hp) (v : V) : Bc.Found → Prop
  | none => v = .non
  | some (t, l) => ∃ a la, v = .ref a ∧ H a = some (.tup [.int (t : Nat), .ref la]) ∧ H la = some (.lst (nums l))
theorem FoundAt.mono {H H' : Hp} (s : Same H H') {v : V} {fd : Bc.Found} (h : FoundAt H v fd) : FoundAt H' v fd := by
  match fd, h with
  | none, h => exact h
  | some (t, l), ⟨a, la, e, h1, h2⟩ => exact ⟨a, la, e, s _ _ h1, s _ _ h2⟩
theorem paired_nums : ∀ (l : List Nat), Paired (fun v (y : Nat) => v = V.int y) (nums l) l
  | [] => .nil
  | _ :: l => .cons rfl (paired_nums l)
section
variable {P : Program} {w : World} {K : PySem.W.Frag} {mg : Str → Option Value} {base : Heap}
/-- the promise where n are left; the first is no promise -/
def spB (T : Tx K mg) : Nat → Sp
  | 0 => fun _ _ _ _ => False
  | n + 1 => fun vs H Q _ => ∃ (p q pl lf : Addr) (fv : V) (g : Kqv4.Hall) (jl : List Kqv4.Job) (placed left : List Nat) (fd : Bc.Found) (h : Kqv4.Hall) (ws : List (Nat × Addr × Kqv4.Blade)),
    vs = [.ref p, .ref q, .ref pl, .ref lf, fv] ∧ WkR T H p h ws ∧ Bc.Like g h ∧ jl.Perm (js g) ∧ JobsAt T h H q jl ∧ jl.length + n ≤ 17 ∧ H pl = some (.lst (nums placed)) ∧ placed.length + n ≤ 5 ∧ H lf = some (.lst (nums left)) ∧ left.length = n ∧ left.Nodup ∧
    (∀ x ∈ left, ∃ b, gv g.waits x = some b ∧ gv h.waits x = some b ∧ b.kind ∈ h.moulds) ∧ FoundAt H fv fd ∧
    ∀ H' v, Same H H' → FoundAt H' v (Bc.dfs n g placed left fd) → Q v H'
theorem ok_better (T : Tx K mg) : ∀ n, FnOk P w K mg base CX0 (n + 5) T.better_order.f T.better_order.fd ["works", "jobs", "placed", "left", "found"] (spB T n)
  | 0 => ⟨fun _ _ _ _ h => h.elim, fun _ _ _ _ _ _ _ _ _ _ _ _ _ h => h.elim⟩
  | n + 1 => by
    have ih := ok_better T n
    refine T.better_order.F.ok sc_better_order (fun vs H Q E h => ?_) (fun cdv A outer s H vs Q E hr h => ?_)
    · obtain ⟨p, q, pl, lf, fv, g, jl, placed, left, fd, h, ws, rfl, _⟩ := h
      rfl
    · obtain ⟨p, q, pl, lf, fv, g, jl, placed, left, fd, h, ws, rfl, W, L, pm, J, jlen, hpl, plen, hlf, llen, nd, can, F, k⟩ := h
      have hu := hu_of hr
      refine ⟨_, (pss_cons (ps_set (i := 5) sc_better_order.nd rfl (Or.inl rfl) (pe_dn T.last_out (ok_last_out T) (hr.mono (by omega)) (by rfl) (pa_cons (pv 0) (pa_cons (pv 1) pa_nil))))
    (pss_cons (ps_if (pw_and (pt_cmp (pc_notN (pv 4))) (pw_and1 (pt_cmpR op_ge (pv 5) (pe_ix ix_tup (pv 4) pe_int (fun _ _ => rfl)) (nomark _)))).pt
    (pss_one (ps_ret (pv 4)))
    pss_nil)
    (pss_cons (ps_if (pt_not (pt_truth (pv 3) (fun _ => rfl)))
    (pss_one (ps_ret (pe_tup (pa_cons (pv 5) (pa_cons (pv 2) pa_nil)))))
    pss_nil)
    (pss_cons (ps_for PassesOwn.never rfl (pi_list (pv 3)) (pg_name (i := 6) sc_better_order.nd rfl (Or.inr rfl))
    (pss_cons (ps_set (i := 7) sc_better_order.nd rfl (Or.inl rfl) (pe_dn T.best_job (ok_best_job T) (hr.mono (by omega)) (by rfl) (pa_cons (pv 0) (pa_cons (pv 1) (pa_cons (pe_dget hu (pe_fld (pv 0) rfl) (pv 6) (fun _ _ => rfl)) pa_nil)))))
      (pss_cons (ps_setLc (i := 8) (own := [("other", 9)]) (tt := (tTest (tOp rNe (tVar 9) (tVar 6)))) (te := (tVar 9)) rfl sc_better_order.nd rfl rfl (sw_true rfl rfl rfl rfl) (pi_list (pv 3)) (blkOk_by (by rfl)) (fun _ _ _ _ _ => (pg_name (i := 9) sc_better_order.nd rfl (Or.inl rfl))) (fun _ _ _ _ _ => (pts_one (pt_cmpR op_ne (pv 9) (pv 6) (nomark _)))) (fun _ _ _ _ _ => (pv 9)))
      (pss_one (ps_set (i := 4) sc_better_order.nd rfl (Or.inl rfl) (pe_dn T.better_order ih (hr.mono (by omega)) (by rfl) (pa_cons (pv 0) (pa_cons (pe_op op_cat (pv 1) (pe_lst (pa_cons (pv 7) pa_nil))) (pa_cons (pe_op op_cat (pv 2) (pe_lst (pa_cons (pv 6) pa_nil))) (pa_cons (pv 8) (pa_cons (pv 4) pa_nil)))))))))))
    (pss_one (ps_ret (pv 4))))))), ?_⟩
      -- end = last_out(works, jobs)
      refine ⟨_, rfl, _, rfl, p, q, h, jl, rfl, W.cr, J, by omega, fun H1 s1 => ?_⟩
      rw [(Bc.sim_withJ L pm).over]
      have F1 := F.mono s1
      have nc : (∀ f, fd = some f → Kqv4.over g < f.1) → tSeq (tIfS (tNot fun σ H Q => tVar 3 σ H fun x H' => ∃ k, TruV K x H' k ∧ Q k H') (tRet (tTup (tCons (tVar 5) (tCons (tVar 2) tNil)))) tNext) (tSeq (tFor (iList K (tVar 3)) (gName 6) (tSeq (tAsg (tCall (sp_best_job T) [] E0 (tCons (tVar 0) (tCons (tVar 1) (tCons (tDGet (tFld K (tVar 0) "waiting") (tVar 6)) tNil)))) (gName 7))
          (tSeq (tAsg (tLc (iList K (tVar 3)) (gName 9) (tTest (tOp rNe (tVar 9) (tVar 6))) (tVar 9) [9]) (gName 8)) (tAsg (tCall (spB T n) [] E0 (tCons (tVar 0) (tCons (tOp rCat (tVar 1) (tLst (tCons (tVar 7) tNil))) (tCons (tOp rCat (tVar 2) (tLst (tCons (tVar 6) tNil))) (tCons (tVar 8) (tCons (tVar 4) tNil)))))) (gName 4))))) (tRet (tVar 4)))
          { nx := fun _ H' => Q .non H', rt := Q } [some (.ref p), some (.ref q), some (.ref pl), some (.ref lf), some fv, some (.int (Kqv4.over g : Nat)), none, none, none, none] H1 := by
        intro nc
        have hlf1 := s1 _ _ hlf
        refine ⟨_, rfl, _, .inl ⟨_, SqL.of hlf1, rfl⟩, ?_⟩
        by_cases le : left = []
        · subst le
          have e0 : n = 0 := llen.symm
          subst e0
          refine iteT ⟨_, rfl, _, rfl, by show 2 ≤ sizeLine; decide, fun r hr' => k _ _ (s1.trans (same_new hr')) ?_⟩
          rw [Bc.dfs_leaf nc]
          exact ⟨r, pl, rfl, upd_same, same_new hr' _ _ (s1 _ _ hpl)⟩
        · have ie : (nums left).isEmpty = false := by
            cases left with
            | nil => exact absurd rfl le
            | cons _ _ => rfl
          rw [ie]
          refine iteF ?_
          obtain ⟨m, rfl⟩ : ∃ m, n = m + 1 := ⟨n - 1, by have := List.length_pos_iff.mpr le; omega⟩
          rw [Bc.dfs_loop nc le] at k
          refine ⟨_, rfl, lf, rfl, ⟨_, SqL.of hlf1⟩, for_list (K := K) (a := lf) (xs := nums left) (fun i σ H' => ∃ (fw : V) (v6 v7 v8 v9 : Option V), σ = [some (.ref p), some (.ref q), some (.ref pl), some (.ref lf), some fw, some (.int (Kqv4.over g : Nat)), v6, v7, v8, v9] ∧ Same H H' ∧ FoundAt H' fw ((left.take i).foldl (Bc.dstep m g placed left) fd))
            ⟨_, _, _, _, _, rfl, s1, F1⟩ (fun i σ H' _ ⟨_, _, _, _, _, _, sm, _⟩ => SqL.of (sm _ _ hlf)) ?_ ?_⟩
          · rintro i y σ H2 hi ⟨fw, v6, v7, v8, v9, rfl, s2, F2⟩
            unfold nums at hi
            rw [List.getElem?_map] at hi
            obtain ⟨x, hx, rfl⟩ := Option.map_eq_some_iff.mp hi
            have mx : x ∈ left := List.mem_of_getElem? hx
            obtain ⟨b, hbg, hbh, hk⟩ := can x mx
            have W2 := W.mono s2
            obtain ⟨a, ma⟩ := mem_ws W2 hbh
            have sim := Bc.sim_withJ L pm
            obtain ⟨j, hj⟩ : ∃ j, Kqv4.best g b = some j := by
              cases e : Kqv4.best g b with
              | some j => exact ⟨j, rfl⟩
              | none => exact absurd (by rw [L.moulds]; exact hk) (Bc.best_none.mp e)
            -- job = best_job(works, jobs, works.waiting[number])
            refine ⟨_, rfl, _, rfl, rd_wget (T := T) rfl rfl W2 ma ?_⟩
            refine ⟨p, q, a, h, jl, b, rfl, W2.cr, J.mono s2, by omega, W2.wa _ ma, fun H3 r j' s3 e jr => ?_, fun H3 s3 e => (by rw [sim.best, hj] at e; cases e)⟩
            rw [sim.best, hj] at e
            have e : j = j' := Option.some.inj e
            subst e
            have s03 := s2.trans s3
            -- others = [other for other in left if other != number]
            have hlf3 := s03 _ _ hlf
            refine ⟨_, rfl, lf, rfl, ⟨_, SqL.of hlf3⟩, ?_⟩
            refine lc_paired (i := 9) (ys := left) (R := fun v (y : Nat) => v = V.int y) (paired_nums left) hlf3 (by show 9 < 10; decide) (by unfold nums; rw [List.length_map, sizeLine_eq]; omega) (fun y => y != x) (fun y => V.int y) ?_ ?_ ?_
            · rintro v y rfl H' Q' sm z
              refine ⟨_, rfl, _, rfl, rfl, _, rfl, ?_⟩
              have e : (!decide (V.int (y : Int) = V.int (x : Int))) = (y != x) := by
                rw [Bool.eq_iff_iff]
                simp only [Bool.not_eq_true', decide_eq_false_iff_not, bne_iff_ne]
                constructor
                · intro h1 h2; exact h1 (by rw [h2])
                · intro h1 h2; injection h2 with h2; exact h1 (by omega)
              rw [e]
              exact z
            · rintro v y rfl _ H' Q' sm z
              exact ⟨_, rfl, z⟩
            intro D hD
            have s4 := same_new (o := .lst ((left.filter fun y => y != x).map fun (y : Nat) => V.int y)) hD
            have s04 := s03.trans s4
            generalize hH4 : upd H3 D (.lst ((left.filter fun y => y != x).map fun (y : Nat) => V.int y)) = H4 at s4 s04 ⊢
            have hD4 : H4 D = some (.lst (nums (left.filter fun y => y != x))) := by rw [← hH4]; exact upd_same
            -- found = better_order(works, jobs + [job], placed + [number], others, found)
            obtain ⟨as, has, pas⟩ := J
            have alen : as.length = jl.length := Paired.length pas
            refine ⟨_, rfl, _, rfl, _, rfl, by show 1 ≤ sizeLine; decide, fun l1 hl1 => ?_⟩
            have s5 := same_new (o := .lst [V.ref r]) hl1
            refine ⟨q, l1, _, _, rfl, rfl, s5 _ _ (s04 _ _ has), upd_same, by rw [List.length_map, sizeLine_eq]; show _ + 1 ≤ _; omega, fun q' hq' => ?_⟩
            have s6 := same_new (o := .lst (as.map V.ref ++ [V.ref r])) hq'
            have s06 := s04.trans (s5.trans s6)
            have hq6 : (upd (upd H4 l1 (.lst [V.ref r])) q' (.lst (as.map V.ref ++ [V.ref r]))) q' = some (.lst (as.map V.ref ++ [V.ref r])) := upd_same
            generalize upd (upd H4 l1 (.lst [V.ref r])) q' (.lst (as.map V.ref ++ [V.ref r])) = H6 at s6 s06 hq6 ⊢
            refine ⟨_, rfl, _, rfl, by show 1 ≤ sizeLine; decide, fun l2 hl2 => ?_⟩
            have s7 := same_new (o := .lst [V.int x]) hl2
            refine ⟨pl, l2, _, _, rfl, rfl, s7 _ _ (s06 _ _ hpl), upd_same, by unfold nums; rw [List.length_map, sizeLine_eq]; show _ + 1 ≤ _; omega, fun p2 hp2 => ?_⟩
            have s8 := same_new (o := .lst (nums placed ++ [V.int x])) hp2
            have s68 := s7.trans s8
            have s08 := s06.trans s68
            have hp8 : (upd (upd H6 l2 (.lst [V.int x])) p2 (.lst (nums placed ++ [V.int x]))) p2 = some (.lst (nums placed ++ [V.int x])) := upd_same
            generalize upd (upd H6 l2 (.lst [V.int x])) p2 (.lst (nums placed ++ [V.int x])) = H8 at s68 s08 hp8 ⊢
            have s48 : Same H4 H8 := (s5.trans s6).trans s68
            have fl := Bc.filter_len nd mx
            refine ⟨_, rfl, _, rfl, ?_⟩
            refine ⟨p, q', p2, D, fw, Bc.addJ g x j, jl ++ [j], placed ++ [x], left.filter fun y => y != x, _, h, ws, rfl, W.mono s08, Bc.like_addJ L x j, (pm.append_right [j]).trans (Bc.js_addJ g x j).symm,
              ⟨as ++ [r], by rw [List.map_append]; exact s68 _ _ hq6, paired_snoc (paired_mono (fun _ _ z => z.mono s08) pas) (jr.mono (s4.trans s48))⟩, by rw [List.length_append]; show _ + 1 + _ ≤ 17; omega,
              by rw [hp8]; unfold nums; rw [List.map_append]; rfl, by rw [List.length_append]; show _ + 1 + _ ≤ 5; omega, s48 _ _ hD4, by omega, List.Pairwise.filter _ nd, fun y hy => ?_, F2.mono ((s3.trans s4).trans s48), fun H9 v s9 F9 => ?_⟩
            · obtain ⟨m1, m2⟩ := List.mem_filter.mp hy
              obtain ⟨b', g1, g2, g3⟩ := can y m1
              refine ⟨b', ?_, g2, g3⟩
              have : gv (Bc.addJ g x j).waits y = if x = y then none else gv g.waits y := Bc.gv_set_none g.waits x y
              rw [this, if_neg (fun z => by rw [z] at m2; simp at m2)]
              exact g1
            · refine ⟨v, _, _, _, _, rfl, s08.trans s9, ?_⟩
              rw [take_snoc hx, List.foldl_append]
              show FoundAt H9 v (Bc.dstep m g placed left _ x)
              rw [Bc.dstep_put hbg hj]
              exact F9
          · rintro σ H2 ⟨fw, v6, v7, v8, v9, rfl, s2, F2⟩
            unfold nums at F2
            rw [List.length_map, List.take_length] at F2
            exact ⟨_, rfl, k _ _ s2 F2⟩
      match fd, F1, nc with
      | none, F1, nc =>
        have F1 : fv = .non := F1
        subst F1
        exact ⟨_, rfl, _, rfl, iteF (iteF (nc fun _ z => nomatch z))⟩
      | some (t, l), ⟨a, la, ea, ha, hla⟩, nc =>
        subst ea
        refine ⟨_, rfl, _, rfl, iteT ⟨_, rfl, _, rfl, a, _, 0, _, rfl, rfl, SqT.of ha, rfl, _, _, rfl, rfl, _, rfl, ite2 (fun ge => ?_) fun ge => ?_⟩⟩
        · have ge := of_decide_eq_true ge
          refine ⟨_, rfl, k _ _ s1 ?_⟩
          rw [Bc.dfs_cut (by show t ≤ _; omega)]
          exact ⟨a, la, rfl, ha, hla⟩
        · have ge : ¬ (t : Int) ≤ (Kqv4.over g : Int) := fun z => ge (decide_eq_true z)
          exact nc fun f e => by
            rw [← Option.some.inj e]
            show Kqv4.over g < t
            omega
end
end Bp
set_option Elab.async false
set_option linter.all false
set_option maxRecDepth 100000
set_option maxHeartbeats 2000000
namespace Bp
open PySem PySem.Spec PyProof.Rows L2 Bl
open Bc (withJ js_withJ gv Sl js)
section
variable {P : Program} {w : World} {K : PySem.W.Frag} {mg : Str → Option Value} {base : Heap}
def sp_better_order (T : Tx K mg) : Sp := fun vs H Q E => ∃ n, n ≤ 6 ∧ spB T n vs H Q E
theorem ok_better_order (T : Tx K mg) : FnOk P w K mg base CX0 11 T.better_order.f T.better_order.fd ["works", "jobs", "placed", "left", "found"] (sp_better_order T) :=
  ⟨fun _ _ _ _ ⟨n, _, h⟩ => (ok_better (P := P) (w := w) (base := base) T n).len _ _ _ _ h, fun A outer s H args us vs Q E hr e0 b v ⟨n, hn, h⟩ => (ok_better T n).run A outer s H args us vs Q E (hr.mono (by omega)) e0 b v h⟩
def sp_best_order (T : Tx K mg) : Sp := fun vs H Q _ => ∃ (p : Addr) (st : Bool) (h : Kqv4.Hall) (f : Ft) (ws : List (Nat × Addr × Kqv4.Blade)) (jb : List (Nat × Addr × Kqv4.Job)), vs = [.ref p] ∧ Wk T H p st h f ws jb ∧ (∀ x ∈ Kqv4.waiting h, ∃ b, gv h.waits x = some b ∧ b.kind ∈ h.moulds) ∧
  ∀ H' v, Same H H' → FoundAt H' v (Kqv4.plan h) → Q v H'
theorem ok_best_order (T : Tx K mg) : FnOk P w K mg base CX0 12 T.best_order.f T.best_order.fd ["works"] (sp_best_order T) := by
  refine T.best_order.F.ok sc_best_order (fun vs H Q E h => ?_) (fun cdv A outer s H vs Q E hr h => ?_)
  · obtain ⟨p, st, h, f, ws, jb, rfl, _⟩ := h
    rfl
  · obtain ⟨p, st, h, f, ws, jb, rfl, W, can, k⟩ := h
    refine ⟨_, (pss_one (ps_ret (pe_dn T.better_order (ok_better_order T) (hr.mono (by decide)) (by rfl) (pa_cons (pv 0) (pa_cons (pe_dn T.all_jobs (ok_all_jobs T) (hr.mono (by decide)) (by rfl) (pa_cons (pv 0) pa_nil)) (pa_cons (pe_lst pa_nil) (pa_cons (pe_callB (call_sortedD rfl) (by rfl) T.b_sorted boot_sorted (pa_cons (pe_fld (pv 0) rfl) pa_nil)) (pa_cons pe_non pa_nil)))))))), ?_⟩
    refine ⟨_, rfl, _, rfl, p, st, h, f, ws, jb, rfl, W, fun l H1 hl s1 J => ?_⟩
    refine ⟨Nat.zero_le _, fun pl hpl => ?_⟩
    have s2 := same_new (o := .lst []) hpl
    have s02 := s1.trans s2
    have W2 := W.mono s02
    have wp : (ws.map fun x => x.1).Perm (Kqv4.waiting h) := by
      have := Bc.waiting_perm W.sw
      rw [List.map_map] at this
      exact this
    have wl : (Kqv4.waiting h).length = ws.length := by rw [← wp.length_eq, List.length_map]
    refine rd_waiting (T := T) rfl W2 ⟨f.dw, _, ws.map fun x => (x.1 : Int), rfl, .inl W2.w, ?_, ?_, fun ns lf pm srt hlf => ?_⟩
    · rw [List.map_map, List.map_map]; rfl
    · rw [List.length_map]; have := W.l5; omega
    have s3 := same_new (o := .lst (ns.map V.int)) hlf
    have e := Bc.sorted_waiting wp (by rw [List.map_map]; exact pm) srt
    have s03 := s02.trans s3
    have hpl3 := s3 _ _ (show (upd H1 pl (.lst [])) pl = some (.lst (nums [])) from upd_same)
    have hlf3 : (upd (upd H1 pl (.lst [])) lf (.lst (ns.map V.int))) lf = some (.lst (nums (Kqv4.waiting h))) := by
      rw [upd_same, e, List.map_map]; rfl
    have J3 := (J.mono s2).mono s3
    refine ⟨(Kqv4.waiting h).length + 1, by have := W.l5; omega, p, l, pl, lf, .non, h, _, [], Kqv4.waiting h, none, h, ws, rfl, W.rd.mono s03, Bc.Like.refl h, W.jsPerm, J3, by rw [List.length_map]; have := W.l5; have := W.l12; omega, hpl3, by show 0 + _ ≤ 5; have := W.l5; omega, hlf3, rfl, Bc.waiting_nodup h, fun x hx => ?_, rfl, fun H' v s4 F => ?_⟩
    · obtain ⟨b, h1, h2⟩ := can x hx
      exact ⟨b, h1, h1, h2⟩
    · rw [← Bc.plan_dfs can] at F
      exact k _ _ (s03.trans s4) F
end
end Bp
set_option Elab.async false
set_option linter.all false
set_option maxRecDepth 100000
set_option maxHeartbeats 2000000
namespace Bp
open PySem PySem.Spec PyProof.Rows L2 Bl
open Bc (withJ js_withJ gv Sl js)
open Kqv4Neutral (tell)
/-- what holds of every hall that calls lead to -/
structure Good (h : Kqv4.Hall) : Prop where
  fl : ∀ j ∈ js h, j.from_ ≤ j.lift
  ap : (js h).Pairwise (Bc.Apart h)
def foot (p : Addr) (f : Ft) : List Addr := [p, f.lm, f.dw, f.dj]
section
variable {K : PySem.W.Frag} {mg : Str → Option Value} (T : Tx K mg)
def StAt (H : Hp) (p : Addr) (f : Ft) : Option Kqv4.Hall → Prop
  | none => ∃ h ws jb, Wk T H p false h f ws jb
  | some h => Good h ∧ ∃ ws jb, Wk T H p true h f ws jb
structure Out (H H' : Hp) (p q : Addr) (f : Ft) (s' : Option Kqv4.Hall) (ans : List Int) : Prop where
  an : H' q = some (.lst (ans.map V.int))
  ex : ∃ f', StAt T H' p f' s' ∧ (∀ b ∈ foot p f', b ∈ foot p f ∨ H b = none) ∧ q ∉ foot p f'
  fr : ∀ b o, H b = some o → b ∉ foot p f → H' b = some o
  nq : H q = none
variable {T}
theorem StAt.mono {H H' : Hp} (s : Same H H') {p : Addr} {f : Ft} {o : Option Kqv4.Hall} (h : StAt T H p f o) : StAt T H' p f o := by
  cases o with
  | none => obtain ⟨h, ws, jb, W⟩ := h; exact ⟨h, ws, jb, W.mono s⟩
  | some h => obtain ⟨G, ws, jb, W⟩ := h; exact ⟨G, ws, jb, W.mono s⟩
theorem Wk.foot_some {H : Hp} {p : Addr} {st : Bool} {h : Kqv4.Hall} {f : Ft} {ws jb} (W : Wk T H p st h f ws jb) : ∀ b ∈ foot p f, ∃ o, H b = some o := by
  intro b hb
  simp only [foot, List.mem_cons, List.not_mem_nil, or_false] at hb
  rcases hb with e | e | e | e
  · rw [e]; exact ⟨_, W.o⟩
  · rw [e]; exact ⟨_, W.m⟩
  · rw [e]; exact ⟨_, W.w⟩
  · rw [e]; exact ⟨_, W.j⟩
theorem StAt.foot_some {H : Hp} {p : Addr} {f : Ft} {o : Option Kqv4.Hall} (h : StAt T H p f o) : ∀ b ∈ foot p f, ∃ o, H b = some o := by
  cases o with
  | none => obtain ⟨h, ws, jb, W⟩ := h; exact W.foot_some
  | some h => obtain ⟨G, ws, jb, W⟩ := h; exact W.foot_some
/-- nothing was changed, the answer is new -/
theorem out_same {H H' : Hp} {p q : Addr} {f : Ft} {s : Option Kqv4.Hall} {ans : List Int} (S : StAt T H p f s) (sm : Same H H') (hq : H q = none) (e : H' q = some (.lst (ans.map V.int))) : Out T H H' p q f s ans :=
  ⟨e, ⟨f, S.mono sm, fun b hb => .inl hb, fun m => by obtain ⟨o, z⟩ := S.foot_some q m; rw [hq] at z; cases z⟩, fun b o z _ => sm b o z, hq⟩
/-- a refusal -/
theorem out_ref {H : Hp} {p q : Addr} {f : Ft} {s : Option Kqv4.Hall} (S : StAt T H p f s) (c : Int) (hq : H q = none) : Out T H (upd H q (.lst [V.int c])) p q f s [c] := out_same S (same_new hq) hq upd_same
/-- the works changed in its own objects, then a new answer -/
theorem out_new {H H1 : Hp} {p q : Addr} {f : Ft} {s : Option Kqv4.Hall} {ans : List Int} (S : StAt T H1 p f s) (fr : ∀ b o, H b = some o → b ∉ foot p f → H1 b = some o) (hq : H1 q = none) : Out T H (upd H1 q (.lst (ans.map V.int))) p q f s ans :=
  ⟨upd_same, ⟨f, S.mono (same_new hq), fun b hb => .inl hb, fun m => by obtain ⟨o, z⟩ := S.foot_some q m; rw [hq] at z; cases z⟩, fun b o z n => same_new hq b o (fr b o z n), by
    cases e : H q with
    | none => rfl
    | some o =>
      by_cases m : q ∈ foot p f
      · obtain ⟨o', z⟩ := S.foot_some q m; rw [hq] at z; cases z
      · have := fr q o e m
        rw [hq] at this; cases this⟩
variable {i i' : Nat} {σ : L2.St} {Q : VK} {H : Hp} {p : Addr} {st : Bool} {h : Kqv4.Hall} {f : Ft} {ws : List (Nat × Addr × Kqv4.Blade)} {jb : List (Nat × Addr × Kqv4.Job)} {n : Nat} {a : Addr} {b : Kqv4.Blade} {j : Kqv4.Job}
theorem rd_wpop (hs : σ[i]? = some (some (.ref p))) (hn : σ[i']? = some (some (.int n))) (W : Wk T H p st h f ws jb) (m : (n, a, b) ∈ ws) (q : Q (.ref a) (upd H f.dw (.dK ((ws.filter fun x => x.1 != n).map kv)))) : tDPop1 (tFld K (tVar i) "waiting") (tVar i') σ H Q := by
  unfold tDPop1
  have v := val_some (by rw [← keys_pr]; exact W.sw.nd) m
  rw [← dict_drop] at q
  exact rd_waiting hs W ⟨f.dw, rfl, .inl ⟨_, .inl W.w⟩, _, hn, _, Sum.inl (n : Int), _, W.w, rfl, v, q⟩
theorem rd_jpop (hs : σ[i]? = some (some (.ref p))) (hn : σ[i']? = some (some (.int n))) (W : Wk T H p st h f ws jb) (m : (n, a, j) ∈ jb) (q : Q (.ref a) (upd H f.dj (.dK ((jb.filter fun x => x.1 != n).map kv)))) : tDPop1 (tFld K (tVar i) "jobs") (tVar i') σ H Q := by
  unfold tDPop1
  have v := val_some (by rw [← keys_pr]; exact W.sj.nd) m
  rw [← dict_drop] at q
  exact rd_jobs hs W ⟨f.dj, rfl, .inl ⟨_, .inl W.j⟩, _, hn, _, Sum.inl (n : Int), _, W.j, rfl, v, q⟩
theorem rd_jget (hs : σ[i]? = some (some (.ref p))) (hn : σ[i']? = some (some (.int n))) (W : Wk T H p st h f ws jb) (m : (n, a, j) ∈ jb) (q : Q (.ref a) H) : tDGet (tFld K (tVar i) "jobs") (tVar i') σ H Q := by
  have v := val_some (by rw [← keys_pr]; exact W.sj.nd) m
  show tFld _ _ _ _ _ _
  exact rd_jobs hs W ⟨_, hn, f.dj, .ref a, rfl, .inl ⟨_, Sum.inl (n : Int), .inl W.j, rfl, v.symm⟩, q⟩
end
section
variable {P : Program} {w : World} {K : PySem.W.Frag} {mg : Str → Option Value} {base : Heap}
/-- a call's promise: A tells the numbers handed in and the call -/
def SpH (T : Tx K mg) (A : List Int → Kqv4.Call → Prop) : Sp := fun vs H Q _ => ∃ (p g : Addr) (f : Ft) (h : Kqv4.Hall) (args : List Int) (c : Kqv4.Call), vs = [.ref p, .ref g] ∧ A args c ∧ StAt T H p f (some h) ∧ H g = some (.lst (args.map V.int)) ∧
  ∀ H' q, Out T H H' p q f (Kqv4.step (some h) c).1 (tell (Kqv4.step (some h) c).2) → Q (.ref q) H'
def A1 (k : Nat → Kqv4.Call) : List Int → Kqv4.Call → Prop := fun args c => ∃ n : Nat, args = [(n : Int)] ∧ c = k n
def A2 (k : Nat → Nat → Kqv4.Call) : List Int → Kqv4.Call → Prop := fun args c => ∃ n m : Nat, args = [(n : Int), (m : Int)] ∧ c = k n m
def A3 (k : Nat → Nat → Nat → Kqv4.Call) : List Int → Kqv4.Call → Prop := fun args c => ∃ n m t : Nat, args = [(n : Int), (m : Int), (t : Int)] ∧ c = k n m t
def A0 (k : Kqv4.Call) : List Int → Kqv4.Call → Prop := fun args c => args = [] ∧ c = k
theorem ok_drop_blade (T : Tx K mg) : FnOk P w K mg base CX0 1 T.drop_blade.f T.drop_blade.fd ["works", "given"] (SpH T (A1 .drop)) := by
  refine T.drop_blade.F.ok sc_drop_blade (fun vs H Q E h => ?_) (fun cdv A outer s H vs Q E hr h => ?_)
  · obtain ⟨p, g, f, h, args, c, rfl, _⟩ := h
    rfl
  · obtain ⟨p, g, f, h, _, _, rfl, ⟨n, rfl, rfl⟩, S, hg, k⟩ := h
    have hu := hu_of hr
    obtain ⟨G, ws, jb, W⟩ := id S
    refine ⟨_, (pss_cons (ps_set (i := 2) sc_drop_blade.nd rfl (Or.inl rfl) (pe_ix ix_list (pv 1) pe_int (fun _ _ => rfl)))
    (pss_cons (ps_if (pt_cmp (pc_dnotin hu (pv 2) (pe_fld (pv 0) rfl)))
    (pss_one (ps_ret (pe_lst (pa_cons (pe_gi T.g_NONE_SUCH (by rfl)) pa_nil))))
    pss_nil)
    (pss_cons (ps_set (i := 3) sc_drop_blade.nd rfl (Or.inl rfl) (pe_dpop1 (pe_fld (pv 0) rfl) (pv 2) ⟨rfl, rfl, rfl, rfl⟩))
    (pss_one (ps_ret (pe_lst (pa_cons (pe_fld (pv 3) rfl) pa_nil))))))), ?_⟩
    refine ⟨_, rfl, g, _, 0, _, rfl, rfl, SqL.of hg, rfl, ?_⟩
    refine ⟨_, rfl, rd_waiting (T := T) rfl W ⟨f.dw, _, rfl, DGet.k (k := Sum.inl (n : Int)) W.w, _, rfl, ?_⟩⟩
    rcases dict_look W.sw n with ⟨e, v⟩ | ⟨a, b, m, e, v⟩
    · rw [v]
      refine iteT ⟨by show 1 ≤ sizeLine; decide, fun q hq => k _ q ?_⟩
      have es : Kqv4.step (some h) (.drop n) = (some h, .num (-2)) := by
        show (match gv h.waits n with | none => _ | some b => _) = _
        rw [e]
      rw [es]
      exact out_ref S (-2) hq
    · rw [v]
      refine iteF ?_
      have es : Kqv4.step (some h) (.drop n) = (some { h with waits := h.waits.set n none }, .num b.minutes) := by
        show (match gv h.waits n with | none => _ | some b => _) = _
        rw [e]
      rw [es] at k
      refine rd_wpop (T := T) rfl rfl W m ?_
      have W1 := W.dropW n
      have hb1 : BladeAt T (upd H f.dw (.dK ((ws.filter fun x => x.1 != n).map kv))) a b := (W.wa _ m).upd W.w dk_nb
      refine rd_minutes (T := T) rfl hb1 ⟨by show 1 ≤ sizeLine; decide, fun q hq => k _ q ?_⟩
      exact out_new (ans := [(b.minutes : Int)]) (s := some { h with waits := h.waits.set n none }) ⟨⟨G.fl, G.ap⟩, _, _, W1⟩ (fun c o z nf => by rw [upd_ne (fun y => nf (by simp [foot, y]))]; exact z) hq
end
end Bp
set_option Elab.async false
set_option linter.all false
set_option maxRecDepth 100000
set_option maxHeartbeats 2000000
namespace Bp
open PySem PySem.Spec PyProof.Rows L2 Bl
open Bc (withJ js_withJ gv Sl js)
open Kqv4Neutral (tell)
section
variable {K : PySem.W.Frag} {mg : Str → Option Value} {T : Tx K mg} {i i' : Nat} {σ : L2.St} {Q : VK} {H : Hp} {p : Addr} {st : Bool} {h : Kqv4.Hall} {f : Ft} {ws : List (Nat × Addr × Kqv4.Blade)} {jb : List (Nat × Addr × Kqv4.Job)} {n : Nat} {a : Addr} {b : Kqv4.Blade} {j : Kqv4.Job}
theorem rdk_moulds (hs : σ[i]? = some (some (.ref p))) (W : Wk T H p st h f ws jb) (q : Q (.ref f.lm) H) : tFld K (tVar i) "moulds" σ H Q :=
  ⟨_, hs, p, _, _, _, _, rfl, W.o, T.Works.cl, T.n_Works_moulds, f_works_moulds .., q⟩
theorem rdk_append {v : V} (hs : σ[i]? = some (some (.ref p))) (hv : σ[i']? = some (some v)) (W : Wk T H p st h f ws jb) (q : Q .non (upd H f.lm (.lst ((h.moulds.map fun (k : Nat) => V.int k) ++ [v])))) : tBM K "list" rAppend (tFld K (tVar i) "moulds") (tCons (tVar i') tNil) σ H Q := by
  unfold tBM
  exact rdk_moulds hs W ⟨.inl ⟨rfl, _, SqL.of W.m⟩, _, hv, f.lm, _, _, rfl, rfl, W.m, by rw [List.length_map, sizeLine_eq]; have := W.l4; omega, q⟩
theorem Wk.addM (W : Wk T H p st h f ws jb) (k : Nat) (l : h.moulds.length ≤ 3) : Wk T (upd H f.lm (.lst ((h.moulds ++ [k]).map fun (k : Nat) => V.int k))) p st { h with moulds := h.moulds ++ [k] } f ws jb :=
  ⟨by rw [upd_ne W.pm]; exact W.o, upd_same, by rw [upd_ne (Ne.symm W.mw)]; exact W.w, by rw [upd_ne (Ne.symm W.mj)]; exact W.j, fun x hx => (W.wa x hx).upd W.m lst_nb, fun x hx => (W.ja x hx).upd W.m lst_nj lst_nb, W.sw, W.sj, W.ne, by rw [List.length_append]; show _ + 1 ≤ 4; omega, W.l5, W.l12⟩
theorem Wk.wlen (W : Wk T H p st h f ws jb) : (Kqv4.waiting h).length = ws.length := by
  have := Bc.waiting_len W.sw
  rw [List.length_map] at this
  exact this.symm
theorem Wk.jlen (W : Wk T H p st h f ws jb) : (Kqv4.all h).length = jb.length := by
  have := W.sj.len
  rw [List.length_map] at this
  exact this.symm
end
section
variable {P : Program} {w : World} {K : PySem.W.Frag} {mg : Str → Option Value} {base : Heap}
theorem ok_add_mould (T : Tx K mg) : FnOk P w K mg base CX0 1 T.add_mould.f T.add_mould.fd ["works", "given"] (SpH T (A1 .mould)) := by
  refine T.add_mould.F.ok sc_add_mould (fun vs H Q E h => ?_) (fun cdv A outer s H vs Q E hr h => ?_)
  · obtain ⟨p, g, f, h, args, c, rfl, _⟩ := h
    rfl
  · obtain ⟨p, g, f, h, _, _, rfl, ⟨n, rfl, rfl⟩, S, hg, k⟩ := h
    obtain ⟨G, ws, jb, W⟩ := id S
    refine ⟨_, (pss_cons (ps_set (i := 2) sc_add_mould.nd rfl (Or.inl rfl) (pe_ix ix_list (pv 1) pe_int (fun _ _ => rfl)))
    (pss_cons (ps_if (pt_cmpR op_gt (pv 2) (pe_gi T.g_HIGHEST_KIND (by rfl)) (nomark _))
    (pss_one (ps_ret (pe_lst (pa_cons (pe_gi T.g_OUT_OF_RANGE (by rfl)) pa_nil))))
    pss_nil)
    (pss_cons (ps_if (pt_cmpR op_ge (pe_callB call_len_seq (by rfl) T.b_len PySem.boot_len (pa_cons (pe_fld (pv 0) rfl) pa_nil)) (pe_gi T.g_MOST_MOULDS (by rfl)) (nomark _))
    (pss_one (ps_ret (pe_lst (pa_cons (pe_gi T.g_FULL (by rfl)) pa_nil))))
    pss_nil)
    (pss_cons (ps_expr (pe_bm PySem.F.plainAttrs_list PySem.F.slot_list_append PySem.F.type_list_append mt_append (pe_fld (pv 0) rfl) (pa_cons (pv 2) pa_nil)))
    (pss_one (ps_ret (pe_lst (pa_cons (pe_op op_sub (pe_callB call_len_seq (by rfl) T.b_len PySem.boot_len (pa_cons (pe_fld (pv 0) rfl) pa_nil)) pe_int) pa_nil)))))))), ?_⟩
    refine ⟨_, rfl, g, _, 0, _, rfl, rfl, SqL.of hg, rfl, ?_⟩
    have es : Kqv4.step (some h) (.mould n) = if 3 < n then (some h, .num (-22)) else if 4 ≤ h.moulds.length then (some h, .num (-28)) else (some { h with moulds := h.moulds ++ [n] }, .num h.moulds.length) := rfl
    refine ⟨_, rfl, _, _, rfl, rfl, _, rfl, ite2 (fun c1 => ?_) fun c1 => ?_⟩
    · have c1 := of_decide_eq_true c1
      rw [es, if_pos (by omega)] at k
      exact ⟨by show 1 ≤ sizeLine; decide, fun q hq => k _ q (out_ref S (-22) hq)⟩
    have c1 : ¬ (3 : Int) < (n : Int) := fun z => c1 (decide_eq_true z)
    rw [es, if_neg (by omega)] at k
    refine rdk_moulds (T := T) rfl W ⟨f.lm, _, rfl, .inl (SqL.of W.m), _, _, rfl, rfl, _, rfl, ite2 (fun c2 => ?_) fun c2 => ?_⟩
    · have c2 := of_decide_eq_true c2
      rw [List.length_map] at c2
      rw [if_pos (by omega)] at k
      exact ⟨by show 1 ≤ sizeLine; decide, fun q hq => k _ q (out_ref S (-28) hq)⟩
    rw [List.length_map] at c2
    have c2 : ¬ (4 : Int) ≤ (h.moulds.length : Int) := fun z => c2 (decide_eq_true z)
    rw [if_neg (by omega)] at k
    refine rdk_append (T := T) rfl rfl W ?_
    have W1 := W.addM n (by omega)
    rw [List.map_append] at W1
    refine rdk_moulds (T := T) rfl W1 ⟨f.lm, _, rfl, .inl (SqL.of upd_same), _, _, rfl, rfl, by show 1 ≤ sizeLine; decide, fun q hq => k _ q ?_⟩
    have e : (((h.moulds.map fun (k : Nat) => V.int k) ++ [V.int (n : Int)]).length : Int) - 1 = (h.moulds.length : Int) := by
      rw [List.length_append, List.length_map]; show ((h.moulds.length + 1 : Nat) : Int) - 1 = _; omega
    show Out T H (upd (upd H f.lm _) q (.lst [V.int ((((h.moulds.map fun (k : Nat) => V.int k) ++ [V.int (n : Int)]).length : Int) - 1)])) p q f _ _
    rw [e]
    exact out_new (ans := [(h.moulds.length : Int)]) (s := some { h with moulds := h.moulds ++ [n] }) ⟨⟨G.fl, G.ap⟩, _, _, W1⟩ (fun c o z nf => by rw [upd_ne (fun y => nf (by simp [foot, y]))]; exact z) hq
theorem ok_add_blade (T : Tx K mg) : FnOk P w K mg base CX0 3 T.add_blade.f T.add_blade.fd ["works", "given"] (SpH T (A2 .blade)) := by
  refine T.add_blade.F.ok sc_add_blade (fun vs H Q E h => ?_) (fun cdv A outer s H vs Q E hr h => ?_)
  · obtain ⟨p, g, f, h, args, c, rfl, _⟩ := h
    rfl
  · obtain ⟨p, g, f, h, _, _, rfl, ⟨n, m, rfl, rfl⟩, S, hg, k⟩ := h
    obtain ⟨G, ws, jb, W⟩ := id S
    refine ⟨_, (pss_cons (ps_set (i := 2) sc_add_blade.nd rfl (Or.inl rfl) (pe_ix ix_list (pv 1) pe_int (fun _ _ => rfl)))
    (pss_cons (ps_set (i := 3) sc_add_blade.nd rfl (Or.inl rfl) (pe_ix ix_list (pv 1) pe_int (fun _ _ => rfl)))
    (pss_cons (ps_if (pw_or (pt_cmpR op_gt (pv 2) (pe_gi T.g_HIGHEST_KIND (by rfl)) (nomark _)) (pw_or1 (pt_not (pt_chain op_le op_le pe_int (pv 3) (pe_gi T.g_LONGEST_IN_MOULD (by rfl)))))).pt
    (pss_one (ps_ret (pe_lst (pa_cons (pe_gi T.g_OUT_OF_RANGE (by rfl)) pa_nil))))
    pss_nil)
    (pss_cons (ps_if (pt_cmpR op_ge (pe_callB call_lenD (by rfl) T.b_len PySem.boot_len (pa_cons (pe_fld (pv 0) rfl) pa_nil)) (pe_gi T.g_MOST_WAITING (by rfl)) (nomark _))
    (pss_one (ps_ret (pe_lst (pa_cons (pe_gi T.g_FULL (by rfl)) pa_nil))))
    pss_nil)
    (pss_one (ps_ret (pe_lst (pa_cons (pe_dn T.add_waiting (ok_add_waiting T) (hr.mono (by decide)) (by rfl) (pa_cons (pv 0) (pa_cons (pe_mk T.Blade_init (ok_Blade_init T) (hr.mono (by decide)) (by rfl) (pa_cons (pv 2) (pa_cons (pv 3) pa_nil))) pa_nil))) pa_nil)))))))), ?_⟩
    refine ⟨_, rfl, g, _, 0, _, rfl, rfl, SqL.of hg, rfl, ?_⟩
    refine ⟨_, rfl, g, _, 1, _, rfl, rfl, SqL.of hg, rfl, ?_⟩
    have es : Kqv4.step (some h) (.blade n m) = if 3 < n ∨ m = 0 ∨ 200 < m then (some h, .num (-22)) else if 5 ≤ (Kqv4.waiting h).length then (some h, .num (-28)) else (some { h with waits := Kqv4.putIn h.waits ⟨n, m⟩ }, .num (Kqv4.slot h.waits)) := rfl
    have bad : (3 < n ∨ m = 0 ∨ 200 < m) → 1 ≤ sizeLine ∧ ∀ q, H q = none → Q (.ref q) (upd H q (.lst [V.int (-22)])) := fun z => by
      rw [es, if_pos z] at k
      exact ⟨by decide, fun q hq => k _ q (out_ref S (-22) hq)⟩
    have good : ¬ (3 < n ∨ m = 0 ∨ 200 < m) → tSeq (tIfS (tTest (tOp (rI0 fun i j => .bl (decide (j ≤ i))) (fun σ H Q => tCons (tFld K (tVar 0) "waiting") tNil σ H fun vs H1 => ∃ a kvs, vs = [V.ref a] ∧ H1 a = some (.dK kvs) ∧ Q (.int kvs.length) H1) (tC (.int 5)))) (tRet (tLst (tCons (tC (.int (-28))) tNil))) tNext)
        (tRet (tLst (tCons (tCall (sp_add_waiting T) [] E0 (tCons (tVar 0) (tCons (tMake T.Blade.C (sp_Blade_init T) [] E0 (tCons (tVar 2) (tCons (tVar 3) tNil))) tNil))) tNil))) { nx := fun _ H' => Q .non H', rt := Q } [some (.ref p), some (.ref g), some (.int n), some (.int m)] H := by
      intro z
      rw [es, if_neg z] at k
      refine rd_waiting (T := T) rfl W ⟨f.dw, _, rfl, W.w, _, _, rfl, rfl, _, rfl, ite2 (fun c2 => ?_) fun c2 => ?_⟩
      · have c2 := of_decide_eq_true c2
        rw [List.length_map] at c2
        rw [if_pos (by rw [W.wlen]; omega)] at k
        exact ⟨by show 1 ≤ sizeLine; decide, fun q hq => k _ q (out_ref S (-28) hq)⟩
      rw [List.length_map] at c2
      have c2 : ¬ (5 : Int) ≤ (ws.length : Int) := fun z => c2 (decide_eq_true z)
      rw [if_neg (by rw [W.wlen]; omega)] at k
      refine ⟨_, rfl, _, rfl, _, rfl, ?_⟩
      intro x dx hx hdx ne
      refine ⟨x, dx, _, _, rfl, upd_same, rfl, ?_⟩
      rw [L2.upd_upd]
      have s1 := same_made (o := .ins T.Blade.C dx (bladeF ⟨n, m⟩)) (u := .own x) hx hdx
      have W1 := W.mono s1
      have hb : BladeAt T (upd (upd H dx (.own x)) x (.ins T.Blade.C dx (bladeF ⟨n, m⟩))) x ⟨n, m⟩ := ⟨dx, upd_same⟩
      refine ⟨p, x, true, h, f, ws, jb, rfl, W1, by omega, fun b => ?_⟩
      have e : ((ws ++ [(Kqv4.slot h.waits, x, b)]).map kv) = ((ws ++ [(Kqv4.slot h.waits, x, (⟨n, m⟩ : Kqv4.Blade))]).map kv) := by rw [List.map_append, List.map_append]; rfl
      rw [e]
      refine ⟨by show 1 ≤ sizeLine; decide, fun q hq => k _ q ?_⟩
      exact out_new (ans := [(Kqv4.slot h.waits : Int)]) (s := some { h with waits := Kqv4.putIn h.waits ⟨n, m⟩ }) ⟨⟨G.fl, G.ap⟩, _, _, W1.addW hb (by omega)⟩ (fun c o z nf => by rw [upd_ne (fun y => nf (by simp [foot, y]))]; exact s1 _ _ z) hq
    refine ⟨_, rfl, _, _, rfl, rfl, _, rfl, ite2 (fun c1 => ?_) fun c1 => ?_⟩
    · have c1 := of_decide_eq_true c1
      exact iteT (bad (by omega))
    have c1 : ¬ (3 : Int) < (n : Int) := fun z => c1 (decide_eq_true z)
    refine ⟨_, rfl, _, _, rfl, rfl, _, rfl, ite2 (fun c2 => ?_) fun c2 => ?_⟩
    · have c2 := of_decide_eq_true c2
      refine ⟨_, _, rfl, rfl, _, rfl, ?_⟩
      by_cases c3 : (m : Int) ≤ 200
      · rw [decide_eq_true c3]
        exact iteF (good (by omega))
      · rw [decide_eq_false c3]
        exact iteT (bad (by omega))
    · have c2 : ¬ (1 : Int) ≤ (m : Int) := fun z => c2 (decide_eq_true z)
      exact ⟨_, rfl, iteT (bad (by omega))⟩
end
end Bp
set_option Elab.async false
set_option linter.all false
set_option maxRecDepth 100000
set_option maxHeartbeats 2000000
namespace Bp
open PySem PySem.Spec PyProof.Rows L2 Bl
open Bc (withJ js_withJ gv Sl js)
open Kqv4Neutral (tell)
section
variable {K : PySem.W.Frag} {mg : Str → Option Value} {T : Tx K mg} {i i' : Nat} {σ : L2.St} {Q : VK} {H : Hp} {p : Addr} {st : Bool} {h : Kqv4.Hall} {f : Ft} {ws : List (Nat × Addr × Kqv4.Blade)} {jb : List (Nat × Addr × Kqv4.Job)} {n : Nat} {a : Addr} {b : Kqv4.Blade} {j : Kqv4.Job}
theorem rd_jvals (hs : σ[i]? = some (some (.ref p))) (W : Wk T H p st h f ws jb) (q : ∀ l H', H l = none → Same H H' → JobsAt T h H' l (jb.map fun x => x.2.2) → Q (.ref l) H') :
    tFld K (tVar i) "jobs" σ H fun x H1 => ∃ d kvs, x = .ref d ∧ H1 d = some (.dK kvs) ∧ ∀ l, H1 l = none → Q (.ref l) (upd H1 l (.lst (kvs.map fun q => q.2))) :=
  rd_jobs hs W ⟨f.dj, _, rfl, W.j, fun l hl => q l _ hl (same_new hl) (W.jobsAt hl)⟩
theorem rd_jbegin (hs : σ[i]? = some (some (.ref p))) (hn : σ[i']? = some (some (.int n))) (W : Wk T H p st h f ws jb) (m : (n, a, j) ∈ jb) (q : Q (.int j.from_) H) : tFld K (tDGet (tFld K (tVar i) "jobs") (tVar i')) "begin" σ H Q := by
  show tDGet _ _ _ _ _
  obtain ⟨dx, ba, e, _⟩ := W.ja _ m
  exact rd_jget hs hn W m ⟨a, _, dx, _, _, rfl, e, T.Job.cl, T.n_Job_begin, f_job_begin .., q⟩
theorem Wk.simJ (W : Wk T H p st h f ws jb) : Bc.Sim (withJ h (jb.map fun x => x.2.2)) h := Bc.sim_withJ (Bc.Like.refl h) W.jsPerm
theorem Wk.jl64 (W : Wk T H p st h f ws jb) : (jb.map fun x => x.2.2).length < 64 := by rw [List.length_map]; have := W.l12; omega
theorem Good.add {h : Kqv4.Hall} (G : Good h) {n : Nat} {j : Kqv4.Job} (hj : j.from_ ≤ j.lift) (ha : ∀ x ∈ js h, Bc.Apart h x j) : Good (Bc.addJ h n j) := ⟨fun x hx => by
  have := (Bc.js_addJ h n j).mem_iff.mp hx
  rcases List.mem_append.mp this with q | q
  · exact G.fl x q
  · rw [show x = j by simpa using q]; exact hj, Bc.apart_add G.ap ha⟩
end
section
variable {P : Program} {w : World} {K : PySem.W.Frag} {mg : Str → Option Value} {base : Heap}
theorem ok_tell_best (T : Tx K mg) : FnOk P w K mg base CX0 5 T.tell_best.f T.tell_best.fd ["works", "given"] (SpH T (A1 .best)) := by
  refine T.tell_best.F.ok sc_tell_best (fun vs H Q E h => ?_) (fun cdv A outer s H vs Q E hr h => ?_)
  · obtain ⟨p, g, f, h, args, c, rfl, _⟩ := h
    rfl
  · obtain ⟨p, g, f, h, _, _, rfl, ⟨n, rfl, rfl⟩, S, hg, k⟩ := h
    have hu := hu_of hr
    obtain ⟨G, ws, jb, W⟩ := id S
    refine ⟨_, (pss_cons (ps_set (i := 2) sc_tell_best.nd rfl (Or.inl rfl) (pe_ix ix_list (pv 1) pe_int (fun _ _ => rfl)))
    (pss_cons (ps_if (pt_cmp (pc_dnotin hu (pv 2) (pe_fld (pv 0) rfl)))
    (pss_one (ps_ret (pe_lst (pa_cons (pe_gi T.g_NONE_SUCH (by rfl)) pa_nil))))
    pss_nil)
    (pss_cons (ps_set (i := 3) sc_tell_best.nd rfl (Or.inl rfl) (pe_dget hu (pe_fld (pv 0) rfl) (pv 2) (fun _ _ => rfl)))
    (pss_cons (ps_if (pt_not (pt_val (pe_dn T.has_mould (ok_has_mould T) (hr.mono (by decide)) (by rfl) (pa_cons (pv 0) (pa_cons (pv 3) pa_nil)))))
    (pss_one (ps_ret (pe_lst (pa_cons (pe_gi T.g_NOT_POSSIBLE (by rfl)) pa_nil))))
    pss_nil)
    (pss_cons (ps_set (i := 4) sc_tell_best.nd rfl (Or.inl rfl) (pe_dn T.best_job (ok_best_job T) (hr.mono (by decide)) (by rfl) (pa_cons (pv 0) (pa_cons (pe_dn T.all_jobs (ok_all_jobs T) (hr.mono (by decide)) (by rfl) (pa_cons (pv 0) pa_nil)) (pa_cons (pv 3) pa_nil)))))
    (pss_one (ps_ret (pe_lst (pa_cons (pe_fld (pv 4) rfl) (pa_cons (pe_fld (pv 4) rfl) (pa_cons (pe_fld (pv 4) rfl) (pa_cons (pe_fld (pv 4) rfl) pa_nil)))))))))))), ?_⟩
    refine ⟨_, rfl, g, _, 0, _, rfl, rfl, SqL.of hg, rfl, ?_⟩
    have es : Kqv4.step (some h) (.best n) = (some h, match gv h.waits n with | none => .num (-2) | some b => match Kqv4.best h b with | none => .num (-33) | some j => .some_ (Kqv4.ends h j) [j.mould, j.from_, j.lift]) := rfl
    rw [es] at k
    refine ⟨_, rfl, rd_waiting (T := T) rfl W ⟨f.dw, _, rfl, DGet.k (k := Sum.inl (n : Int)) W.w, _, rfl, ?_⟩⟩
    rcases dict_look W.sw n with ⟨e, v⟩ | ⟨a, b, m, e, v⟩
    · rw [v]
      simp only [e] at k
      exact iteT ⟨by show 1 ≤ sizeLine; decide, fun q hq => k _ q (out_ref S (-2) hq)⟩
    rw [v]
    simp only [e] at k
    refine iteF ?_
    refine rd_wget (T := T) rfl rfl W.rd m ?_
    refine ⟨_, rfl, _, rfl, p, a, h, b, rfl, W.cr, W.wa _ m, _, rfl, ?_⟩
    cases ej : Kqv4.best h b with
    | none =>
      simp only [ej] at k
      rw [decide_eq_false (Bc.best_none.mp ej)]
      exact iteT ⟨by show 1 ≤ sizeLine; decide, fun q hq => k _ q (out_ref S (-33) hq)⟩
    | some j =>
      simp only [ej] at k
      have hk : b.kind ∈ h.moulds := by
        by_cases m : b.kind ∈ h.moulds
        · exact m
        · rw [Bc.best_none.mpr m] at ej; cases ej
      rw [decide_eq_true hk]
      refine iteF ?_
      refine ⟨_, rfl, _, rfl, p, true, h, f, ws, jb, rfl, W, fun l H1 hl s1 J => ?_⟩
      refine ⟨_, rfl, p, l, a, h, _, b, rfl, W.cr.mono s1, J, W.jl64, (W.wa _ m).mono s1, fun H2 r j' s2 e2 jr => ?_, fun H2 s2 e2 => (by rw [W.simJ.best, ej] at e2; cases e2)⟩
      rw [W.simJ.best, ej] at e2
      have e2 : j = j' := Option.some.inj e2
      subst e2
      have s02 := s1.trans s2
      show tRet (tLst (tCons (tFld K (tVar 4) "out") _)) _ _ _
      unfold tRet tLst tCons
      refine rd_out (T := T) rfl jr ?_
      refine rd_mould (T := T) rfl jr (rd_begin (T := T) rfl jr (rd_lifted (T := T) rfl jr ⟨by show 4 ≤ sizeLine; decide, fun q hq => k _ q ?_⟩))
      exact out_same S (s02.trans (same_new hq)) (s02.free hq) upd_same
def sp_put_into_best (T : Tx K mg) : Sp := fun vs H Q _ => ∃ (p a : Addr) (n : Nat) (b : Kqv4.Blade) (j : Kqv4.Job) (st : Bool) (h : Kqv4.Hall) (f : Ft) (ws : List (Nat × Addr × Kqv4.Blade)) (jb : List (Nat × Addr × Kqv4.Job)), vs = [.ref p, .int n] ∧ Wk T H p st h f ws jb ∧ (n, a, b) ∈ ws ∧ Kqv4.best h b = some j ∧ jb.length ≤ 11 ∧
  ∀ H' r, Wk T H' p st (Bc.addJ h n j) f (ws.filter fun x => x.1 != n) (jb ++ [(Kqv4.slot h.jobs, r, j)]) → JobAt T h.lift h.clean H' r j → (∀ c o, H c = some o → c ≠ f.dw → c ≠ f.dj → H' c = some o) → Q (.int (Kqv4.slot h.jobs : Nat)) H'
theorem ok_put_into_best (T : Tx K mg) : FnOk P w K mg base CX0 5 T.put_into_best.f T.put_into_best.fd ["works", "number"] (sp_put_into_best T) := by
  refine T.put_into_best.F.ok sc_put_into_best (fun vs H Q E h => ?_) (fun cdv A outer s H vs Q E hr h => ?_)
  · obtain ⟨p, a, n, b, j, st, h, f, ws, jb, rfl, _⟩ := h
    rfl
  · obtain ⟨p, a, n, b, j, st, h, f, ws, jb, rfl, W, m, ej, l11, k⟩ := h
    have hu := hu_of hr
    refine ⟨_, (pss_cons (ps_set (i := 2) sc_put_into_best.nd rfl (Or.inl rfl) (pe_dn T.best_job (ok_best_job T) (hr.mono (by decide)) (by rfl) (pa_cons (pv 0) (pa_cons (pe_dn T.all_jobs (ok_all_jobs T) (hr.mono (by decide)) (by rfl) (pa_cons (pv 0) pa_nil)) (pa_cons (pe_dget hu (pe_fld (pv 0) rfl) (pv 1) (fun _ _ => rfl)) pa_nil)))))
    (pss_one (ps_ret (pe_dn T.make_job (ok_make_job T) (hr.mono (by decide)) (by rfl) (pa_cons (pv 0) (pa_cons (pv 1) (pa_cons (pv 2) pa_nil))))))), ?_⟩
    refine ⟨_, rfl, _, rfl, p, st, h, f, ws, jb, rfl, W, fun l H1 hl s1 J => ?_⟩
    refine rd_wget (T := T) rfl rfl (W.rd.mono s1) m ?_
    refine ⟨p, l, a, h, _, b, rfl, W.cr.mono s1, J, W.jl64, (W.wa _ m).mono s1, fun H2 r j' s2 e2 jr => ?_, fun H2 s2 e2 => (by rw [W.simJ.best, ej] at e2; cases e2)⟩
    rw [W.simJ.best, ej] at e2
    have e2 : j = j' := Option.some.inj e2
    subst e2
    have s02 := s1.trans s2
    exact ⟨_, rfl, _, rfl, _, rfl, p, a, r, n, b, j, st, h, f, ws, jb, rfl, W.mono s02, m, jr, l11, fun H3 W3 jr3 fr => k H3 r W3 jr3 fun c o z h1 h2 => fr c o (s02 _ _ z) h1 h2⟩
theorem ok_put_blade (T : Tx K mg) : FnOk P w K mg base CX0 6 T.put_blade.f T.put_blade.fd ["works", "given"] (SpH T (A1 .put)) := by
  refine T.put_blade.F.ok sc_put_blade (fun vs H Q E h => ?_) (fun cdv A outer s H vs Q E hr h => ?_)
  · obtain ⟨p, g, f, h, args, c, rfl, _⟩ := h
    rfl
  · obtain ⟨p, g, f, h, _, _, rfl, ⟨n, rfl, rfl⟩, S, hg, k⟩ := h
    have hu := hu_of hr
    obtain ⟨G, ws, jb, W⟩ := id S
    refine ⟨_, (pss_cons (ps_set (i := 2) sc_put_blade.nd rfl (Or.inl rfl) (pe_ix ix_list (pv 1) pe_int (fun _ _ => rfl)))
    (pss_cons (ps_if (pt_cmp (pc_dnotin hu (pv 2) (pe_fld (pv 0) rfl)))
    (pss_one (ps_ret (pe_lst (pa_cons (pe_gi T.g_NONE_SUCH (by rfl)) pa_nil))))
    pss_nil)
    (pss_cons (ps_if (pt_not (pt_val (pe_dn T.has_mould (ok_has_mould T) (hr.mono (by decide)) (by rfl) (pa_cons (pv 0) (pa_cons (pe_dget hu (pe_fld (pv 0) rfl) (pv 2) (fun _ _ => rfl)) pa_nil)))))
    (pss_one (ps_ret (pe_lst (pa_cons (pe_gi T.g_NOT_POSSIBLE (by rfl)) pa_nil))))
    pss_nil)
    (pss_cons (ps_if (pt_cmpR op_ge (pe_callB call_lenD (by rfl) T.b_len PySem.boot_len (pa_cons (pe_fld (pv 0) rfl) pa_nil)) (pe_gi T.g_MOST_JOBS (by rfl)) (nomark _))
    (pss_one (ps_ret (pe_lst (pa_cons (pe_gi T.g_FULL (by rfl)) pa_nil))))
    pss_nil)
    (pss_cons (ps_set (i := 3) sc_put_blade.nd rfl (Or.inl rfl) (pe_dn T.put_into_best (ok_put_into_best T) (hr.mono (by decide)) (by rfl) (pa_cons (pv 0) (pa_cons (pv 2) pa_nil))))
    (pss_cons (ps_set (i := 4) sc_put_blade.nd rfl (Or.inl rfl) (pe_dget hu (pe_fld (pv 0) rfl) (pv 3) (fun _ _ => rfl)))
    (pss_one (ps_ret (pe_lst (pa_cons (pv 3) (pa_cons (pe_fld (pv 4) rfl) (pa_cons (pe_fld (pv 4) rfl) (pa_cons (pe_fld (pv 4) rfl) pa_nil))))))))))))), ?_⟩
    refine ⟨_, rfl, g, _, 0, _, rfl, rfl, SqL.of hg, rfl, ?_⟩
    have es : Kqv4.step (some h) (.put n) = match gv h.waits n with | none => (some h, .num (-2)) | some b => match Kqv4.best h b with | none => (some h, .num (-33)) | some j => if 12 ≤ (Kqv4.all h).length then (some h, .num (-28)) else (some (Bc.addJ h n j), .some_ (Kqv4.slot h.jobs) [j.mould, j.from_, j.lift]) := rfl
    rw [es] at k
    refine ⟨_, rfl, rd_waiting (T := T) rfl W ⟨f.dw, _, rfl, DGet.k (k := Sum.inl (n : Int)) W.w, _, rfl, ?_⟩⟩
    rcases dict_look W.sw n with ⟨e, v⟩ | ⟨a, b, m, e, v⟩
    · rw [v]
      simp only [e] at k
      exact iteT ⟨by show 1 ≤ sizeLine; decide, fun q hq => k _ q (out_ref S (-2) hq)⟩
    rw [v]
    simp only [e] at k
    refine iteF ?_
    refine ⟨_, rfl, rd_wget (T := T) rfl rfl W.rd m ?_⟩
    refine ⟨p, a, h, b, rfl, W.cr, W.wa _ m, _, rfl, ?_⟩
    cases ej : Kqv4.best h b with
    | none =>
      simp only [ej] at k
      rw [decide_eq_false (Bc.best_none.mp ej)]
      exact iteT ⟨by show 1 ≤ sizeLine; decide, fun q hq => k _ q (out_ref S (-33) hq)⟩
    | some j =>
      simp only [ej] at k
      have hk : b.kind ∈ h.moulds := by
        by_cases m : b.kind ∈ h.moulds
        · exact m
        · rw [Bc.best_none.mpr m] at ej; cases ej
      rw [decide_eq_true hk]
      refine iteF ?_
      refine rd_jobs (T := T) rfl W ⟨f.dj, _, rfl, W.j, _, _, rfl, rfl, _, rfl, ite2 (fun c2 => ?_) fun c2 => ?_⟩
      · have c2 := of_decide_eq_true c2
        rw [List.length_map] at c2
        have k : ∀ (H' : Hp) (q : Addr), Out T H H' p q f (some h) [-28] → Q (.ref q) H' := by
          have : 12 ≤ (Kqv4.all h).length := by rw [W.jlen]; omega
          simp only [this, if_true] at k
          exact k
        exact ⟨by show 1 ≤ sizeLine; decide, fun q hq => k _ q (out_ref S (-28) hq)⟩
      rw [List.length_map] at c2
      have c2 : ¬ (12 : Int) ≤ (jb.length : Int) := fun z => c2 (decide_eq_true z)
      have k : ∀ (H' : Hp) (q : Addr), Out T H H' p q f (some (Bc.addJ h n j)) [(Kqv4.slot h.jobs : Int), (j.mould : Int), (j.from_ : Int), (j.lift : Int)] → Q (.ref q) H' := by
        have : ¬ 12 ≤ (Kqv4.all h).length := by rw [W.jlen]; omega
        simp only [this, if_false] at k
        exact k
      refine ⟨_, rfl, _, rfl, p, a, n, b, j, true, h, f, ws, jb, rfl, W, m, ej, by omega, fun H3 r W3 jr3 fr => ?_⟩
      have mj : (Kqv4.slot h.jobs, r, j) ∈ jb ++ [(Kqv4.slot h.jobs, r, j)] := by simp
      refine rd_jget (T := T) rfl rfl W3 mj ?_
      refine ⟨_, rfl, rd_mould (T := T) rfl jr3 (rd_begin (T := T) rfl jr3 (rd_lifted (T := T) rfl jr3 ⟨by show 4 ≤ sizeLine; decide, fun q hq => k _ q ?_⟩))⟩
      have rise := (Bc.best_rise ej).1
      exact out_new (ans := [(Kqv4.slot h.jobs : Int), (j.mould : Int), (j.from_ : Int), (j.lift : Int)]) (s := some (Bc.addJ h n j)) ⟨G.add (by omega) (Bc.best_apart ej), _, _, W3⟩ (fun c o z nf => fr c o z (fun y => nf (by simp [foot, y])) fun y => nf (by simp [foot, y])) hq
theorem ok_cancel_job (T : Tx K mg) : FnOk P w K mg base CX0 4 T.cancel_job.f T.cancel_job.fd ["works", "given"] (SpH T (A1 .cancel)) := by
  refine T.cancel_job.F.ok sc_cancel_job (fun vs H Q E h => ?_) (fun cdv A outer s H vs Q E hr h => ?_)
  · obtain ⟨p, g, f, h, args, c, rfl, _⟩ := h
    rfl
  · obtain ⟨p, g, f, h, _, _, rfl, ⟨n, rfl, rfl⟩, S, hg, k⟩ := h
    have hu := hu_of hr
    obtain ⟨G, ws, jb, W⟩ := id S
    refine ⟨_, (pss_cons (ps_set (i := 2) sc_cancel_job.nd rfl (Or.inl rfl) (pe_ix ix_list (pv 1) pe_int (fun _ _ => rfl)))
    (pss_cons (ps_if (pt_cmp (pc_dnotin hu (pv 2) (pe_fld (pv 0) rfl)))
    (pss_one (ps_ret (pe_lst (pa_cons (pe_gi T.g_NONE_SUCH (by rfl)) pa_nil))))
    pss_nil)
    (pss_cons (ps_if (pt_cmpR op_lt (pe_fld (pe_dget hu (pe_fld (pv 0) rfl) (pv 2) (fun _ _ => rfl)) rfl) (pe_fld (pv 0) rfl) (nomark _))
    (pss_one (ps_ret (pe_lst (pa_cons (pe_gi T.g_BEGUN (by rfl)) pa_nil))))
    pss_nil)
    (pss_cons (ps_if (pt_cmpR op_ge (pe_callB call_lenD (by rfl) T.b_len PySem.boot_len (pa_cons (pe_fld (pv 0) rfl) pa_nil)) (pe_gi T.g_MOST_WAITING (by rfl)) (nomark _))
    (pss_one (ps_ret (pe_lst (pa_cons (pe_gi T.g_FULL (by rfl)) pa_nil))))
    pss_nil)
    (pss_one (ps_ret (pe_lst (pa_cons (pe_dn T.make_waiting (ok_make_waiting T) (hr.mono (by decide)) (by rfl) (pa_cons (pv 0) (pa_cons (pv 2) pa_nil))) pa_nil)))))))), ?_⟩
    refine ⟨_, rfl, g, _, 0, _, rfl, rfl, SqL.of hg, rfl, ?_⟩
    have es : Kqv4.step (some h) (.cancel n) = match gv h.jobs n with | none => (some h, .num (-2)) | some j => if j.from_ < h.minute then (some h, .num (-16)) else if 5 ≤ (Kqv4.waiting h).length then (some h, .num (-28)) else (some { h with jobs := h.jobs.set n none, waits := Kqv4.putIn h.waits j.blade }, .num (Kqv4.slot h.waits)) := rfl
    rw [es] at k
    refine ⟨_, rfl, rd_jobs (T := T) rfl W ⟨f.dj, _, rfl, DGet.k (k := Sum.inl (n : Int)) W.j, _, rfl, ?_⟩⟩
    rcases dict_look W.sj n with ⟨e, v⟩ | ⟨a, j, m, e, v⟩
    · rw [v]
      simp only [e] at k
      exact iteT ⟨by show 1 ≤ sizeLine; decide, fun q hq => k _ q (out_ref S (-2) hq)⟩
    rw [v]
    simp only [e] at k
    refine iteF ?_
    refine rd_jbegin (T := T) rfl rfl W m (rd_minute (T := T) rfl W.cr ⟨_, _, rfl, rfl, _, rfl, ite2 (fun c1 => ?_) fun c1 => ?_⟩)
    · have c1 := of_decide_eq_true c1
      rw [if_pos (by omega)] at k
      exact ⟨by show 1 ≤ sizeLine; decide, fun q hq => k _ q (out_ref S (-16) hq)⟩
    have c1 : ¬ (j.from_ : Int) < (h.minute : Int) := fun z => c1 (decide_eq_true z)
    rw [if_neg (by omega)] at k
    refine rd_waiting (T := T) rfl W ⟨f.dw, _, rfl, W.w, _, _, rfl, rfl, _, rfl, ite2 (fun c2 => ?_) fun c2 => ?_⟩
    · have c2 := of_decide_eq_true c2
      rw [List.length_map] at c2
      rw [if_pos (by rw [W.wlen]; omega)] at k
      exact ⟨by show 1 ≤ sizeLine; decide, fun q hq => k _ q (out_ref S (-28) hq)⟩
    rw [List.length_map] at c2
    have c2 : ¬ (5 : Int) ≤ (ws.length : Int) := fun z => c2 (decide_eq_true z)
    rw [if_neg (by rw [W.wlen]; omega)] at k
    refine ⟨_, rfl, _, rfl, p, a, n, j, true, h, f, ws, jb, rfl, W, m, by omega, fun H' ws' jb' W' fr => ⟨by show 1 ≤ sizeLine; decide, fun q hq => k _ q ?_⟩⟩
    refine out_new (ans := [(Kqv4.slot h.waits : Int)]) (s := some { h with jobs := h.jobs.set n none, waits := Kqv4.putIn h.waits j.blade }) ⟨⟨fun x hx => ?_, Bc.apart_drop n rfl G.ap rfl rfl⟩, _, _, W'⟩ (fun c o z nf => fr c o z (fun y => nf (by simp [foot, y])) fun y => nf (by simp [foot, y])) hq
    obtain ⟨i, hi⟩ := Bc.mem_js.mp hx
    have hi : gv (h.jobs.set n none) i = some x := hi
    rw [Bc.gv_set_none] at hi
    split at hi
    · cases hi
    · exact G.fl x (Bc.mem_js.mpr ⟨i, hi⟩)
end
end Bp
set_option Elab.async false
set_option linter.all false
set_option maxRecDepth 100000
set_option maxHeartbeats 2000000
namespace Bp
open PySem PySem.Spec PyProof.Rows L2 Bl
open Bc (withJ js_withJ gv Sl js)
open Kqv4Neutral (tell)
section
variable {P : Program} {w : World} {K : PySem.W.Frag} {mg : Str → Option Value} {base : Heap}
theorem Emp.wk {T : Tx K mg} {H H' : Hp} {p dx lm dw dj : Addr} {st : Bool} {l c : Nat} (e : Emp T H H' p dx st l c lm dw dj) : Wk T H' p st ⟨l, c, 0, [], [], [], 0⟩ ⟨dx, lm, dw, dj⟩ [] [] :=
  ⟨e.o, e.m, e.w, e.j, (fun _ hx => nomatch hx), (fun _ hx => nomatch hx), Bc.sl_nil, Bc.sl_nil, e.ne, Nat.zero_le _, Nat.zero_le _, Nat.zero_le _⟩
/-- a start's promise: whatever was -/
def SpS (T : Tx K mg) : Sp := fun vs H Q _ => ∃ (p g : Addr) (f : Ft) (s : Option Kqv4.Hall) (l c : Nat), vs = [.ref p, .ref g] ∧ StAt T H p f s ∧ H g = some (.lst [V.int l, V.int c]) ∧
  ∀ H' q, Out T H H' p q f (Kqv4.step s (.start l c)).1 (tell (Kqv4.step s (.start l c)).2) → Q (.ref q) H'
theorem ok_start_anew (T : Tx K mg) : FnOk P w K mg base CX0 2 T.start_anew.f T.start_anew.fd ["works", "given"] (SpS T) := by
  refine T.start_anew.F.ok sc_start_anew (fun vs H Q E h => ?_) (fun cdv A outer s H vs Q E hr h => ?_)
  · obtain ⟨p, g, f, s, l, c, rfl, _⟩ := h
    rfl
  · obtain ⟨p, g, f, s', l, c, rfl, S, hg, k⟩ := h
    have wk : ∃ st h ws jb, Wk T H p st h f ws jb := by
      cases s' with
      | none => obtain ⟨h, ws, jb, W⟩ := S; exact ⟨_, h, ws, jb, W⟩
      | some h => obtain ⟨_, ws, jb, W⟩ := S; exact ⟨_, h, ws, jb, W⟩
    obtain ⟨st, h0, ws, jb, W⟩ := wk
    refine ⟨_, (pss_cons (ps_set (i := 2) sc_start_anew.nd rfl (Or.inl rfl) (pe_ix ix_list (pv 1) pe_int (fun _ _ => rfl)))
    (pss_cons (ps_set (i := 3) sc_start_anew.nd rfl (Or.inl rfl) (pe_ix ix_list (pv 1) pe_int (fun _ _ => rfl)))
    (pss_cons (ps_if (pw_or (pt_not (pt_chain op_le op_le pe_int (pv 2) (pe_gi T.g_LONGEST_LIFT (by rfl)))) (pw_or1 (pt_cmpR op_gt (pv 3) (pe_gi T.g_LONGEST_CLEAN (by rfl)) (nomark _)))).pt
    (pss_one (ps_ret (pe_lst (pa_cons (pe_gi T.g_OUT_OF_RANGE (by rfl)) pa_nil))))
    pss_nil)
    (pss_cons (ps_expr (pe_md (pv 0) T.Works_make_empty (ok_Works_make_empty T) (hr.mono (by decide)) (pa_cons (pv 2) (pa_cons (pv 3) pa_nil))))
    (pss_cons (ps_fld (pv 0) pe_bl rfl)
    (pss_one (ps_ret (pe_lst (pa_cons pe_int pa_nil))))))))), ?_⟩
    refine ⟨_, rfl, g, _, 0, _, rfl, rfl, SqL.of hg, rfl, ?_⟩
    refine ⟨_, rfl, g, _, 1, _, rfl, rfl, SqL.of hg, rfl, ?_⟩
    have es : Kqv4.step s' (.start l c) = if l = 0 ∨ 60 < l ∨ 60 < c then (s', .num (-22)) else (some ⟨l, c, 0, [], [], [], 0⟩, .num 0) := by cases s' <;> rfl
    have bad : (l = 0 ∨ 60 < l ∨ 60 < c) → 1 ≤ sizeLine ∧ ∀ q, H q = none → Q (.ref q) (upd H q (.lst [V.int (-22)])) := fun z => by
      rw [es, if_pos z] at k
      exact ⟨by decide, fun q hq => k _ q (out_ref S (-22) hq)⟩
    have good : ¬ (l = 0 ∨ 60 < l ∨ 60 < c) → tSeq (tDrop (tMeth T.Works.C "make_empty" (sp_Works_make_empty T) [] E0 (tVar 0) (tCons (tVar 2) (tCons (tVar 3) tNil)))) (tSeq (sFld K (tVar 0) (tC (.bl true)) "started") (tRet (tLst (tCons (tC (.int 0)) tNil))))
        { nx := fun _ H' => Q .non H', rt := Q } [some (.ref p), some (.ref g), some (.int l), some (.int c)] H := by
      intro z
      rw [es, if_neg z] at k
      refine ⟨_, rfl, p, f.dx, _, rfl, W.o, rfl, _, rfl, _, rfl, ?_⟩
      refine ⟨p, f.dx, l, c, st, _, rfl, W.o, .inr ⟨h0, _, _, _, rfl⟩, fun H1 lm dw dj e => ?_⟩
      have W1 := e.wk
      refine ⟨_, rfl, p, _, f.dx, _, rfl, e.o, T.Works.cl, T.n_Works_started, (by show 8 < 1000; decide), ?_⟩
      refine ⟨by show 1 ≤ sizeLine; decide, fun q hq => k _ q ?_⟩
      have W2 : Wk T (upd H1 p (.ins T.Works.C f.dx (worksF true ⟨l, c, 0, [], [], [], 0⟩ lm dw dj))) p true ⟨l, c, 0, [], [], [], 0⟩ ⟨f.dx, lm, dw, dj⟩ [] [] :=
        ⟨upd_same, by rw [upd_ne (Ne.symm W1.pm)]; exact W1.m, by rw [upd_ne (Ne.symm W1.pw)]; exact W1.w, by rw [upd_ne (Ne.symm W1.pj)]; exact W1.j, (fun _ hx => nomatch hx), (fun _ hx => nomatch hx), Bc.sl_nil, Bc.sl_nil, W1.ne, W1.l4, W1.l5, W1.l12⟩
      have hq : (upd H1 p (.ins T.Works.C f.dx (worksF true ⟨l, c, 0, [], [], [], 0⟩ lm dw dj))) q = none := hq
      refine ⟨upd_same, ⟨⟨f.dx, lm, dw, dj⟩, (show StAt T _ p _ (some _) from ⟨⟨(fun j hj => nomatch hj), List.Pairwise.nil⟩, _, _, W2⟩ : StAt T (upd H1 p (.ins T.Works.C f.dx (worksF true ⟨l, c, 0, [], [], [], 0⟩ lm dw dj))) p ⟨f.dx, lm, dw, dj⟩ (some ⟨l, c, 0, [], [], [], 0⟩)).mono (same_new hq), fun b hb => ?_, fun m => ?_⟩, fun b o z nf => ?_, ?_⟩
      · simp only [foot, List.mem_cons, List.not_mem_nil, or_false] at hb ⊢
        rcases hb with y | y | y | y
        · exact .inl (.inl y)
        · exact .inr (by rw [y]; exact e.nm)
        · exact .inr (by rw [y]; exact e.nw)
        · exact .inr (by rw [y]; exact e.nj)
      · obtain ⟨o, z⟩ := W2.foot_some q m
        rw [hq] at z; cases z
      · have np : b ≠ p := fun y => nf (by simp [foot, y])
        refine same_new hq b o ?_
        rw [upd_ne np]
        exact e.fr b o z np
      · have np : q ≠ p := fun y => by rw [y, upd_same] at hq; cases hq
        rw [upd_ne np] at hq
        cases ez : H q with
        | none => rfl
        | some o =>
          have := e.fr q o ez np
          rw [hq] at this
          cases this
    refine ⟨_, rfl, _, _, rfl, rfl, _, rfl, ite2 (fun c1 => ?_) fun c1 => ?_⟩
    · have c1 := of_decide_eq_true c1
      refine ⟨_, _, rfl, rfl, _, rfl, ?_⟩
      by_cases c2 : (l : Int) ≤ 60
      · rw [decide_eq_true c2]
        refine iteF ⟨_, rfl, _, _, rfl, rfl, _, rfl, ite2 (fun c3 => ?_) fun c3 => ?_⟩
        · have c3 := of_decide_eq_true c3
          exact bad (by omega)
        · have c3 : ¬ (60 : Int) < (c : Int) := fun z => c3 (decide_eq_true z)
          exact good (by omega)
      · rw [decide_eq_false c2]
        exact iteT (iteT (bad (by omega)))
    · have c1 : ¬ (1 : Int) ≤ (l : Int) := fun z => c1 (decide_eq_true z)
      exact ⟨_, rfl, iteT (iteT (bad (by omega)))⟩
end
end Bp
set_option Elab.async false
set_option linter.all false
set_option maxRecDepth 100000
set_option maxHeartbeats 2000000
namespace Bp
open PySem PySem.Spec PyProof.Rows L2 Bl
open Bc (withJ js_withJ gv Sl js)
open Kqv4Neutral (tell)
section
variable {P : Program} {w : World} {K : PySem.W.Frag} {mg : Str → Option Value} {base : Heap}
theorem ok_put_blade_at (T : Tx K mg) : FnOk P w K mg base CX0 4 T.put_blade_at.f T.put_blade_at.fd ["works", "given"] (SpH T (A3 .at_)) := by
  refine T.put_blade_at.F.ok sc_put_blade_at (fun vs H Q E h => ?_) (fun cdv A outer s H vs Q E hr h => ?_)
  · obtain ⟨p, g, f, h, args, c, rfl, _⟩ := h
    rfl
  · obtain ⟨p, g, f, h, _, _, rfl, ⟨n, m, t, rfl, rfl⟩, S, hg, k⟩ := h
    have hu := hu_of hr
    obtain ⟨G, ws, jb, W⟩ := id S
    refine ⟨_, (pss_cons (ps_set (i := 2) sc_put_blade_at.nd rfl (Or.inl rfl) (pe_ix ix_list (pv 1) pe_int (fun _ _ => rfl)))
    (pss_cons (ps_set (i := 3) sc_put_blade_at.nd rfl (Or.inl rfl) (pe_ix ix_list (pv 1) pe_int (fun _ _ => rfl)))
    (pss_cons (ps_set (i := 4) sc_put_blade_at.nd rfl (Or.inl rfl) (pe_ix ix_list (pv 1) pe_int (fun _ _ => rfl)))
    (pss_cons (ps_if (pw_or (pt_cmp (pc_dnotin hu (pv 2) (pe_fld (pv 0) rfl))) (pw_or1 (pt_not (pt_val (pe_dn T.is_mould (ok_is_mould T) (hr.mono (by decide)) (by rfl) (pa_cons (pv 0) (pa_cons (pv 3) pa_nil))))))).pt
    (pss_one (ps_ret (pe_lst (pa_cons (pe_gi T.g_NONE_SUCH (by rfl)) pa_nil))))
    pss_nil)
    (pss_cons (ps_set (i := 5) sc_put_blade_at.nd rfl (Or.inl rfl) (pe_dget hu (pe_fld (pv 0) rfl) (pv 2) (fun _ _ => rfl)))
    (pss_cons (ps_if (pw_or (pt_cmpR op_ne (pe_ix ix_list (pe_fld (pv 0) rfl) (pv 3) (fun _ _ => rfl)) (pe_fld (pv 5) rfl) (nomark _)) (pw_or1 (pt_not (pt_chain op_le op_le pe_int (pe_op op_sub (pv 4) (pe_fld (pv 0) rfl)) (pe_gi T.g_FARTHEST_AHEAD (by rfl)))))).pt
    (pss_one (ps_ret (pe_lst (pa_cons (pe_gi T.g_OUT_OF_RANGE (by rfl)) pa_nil))))
    pss_nil)
    (pss_cons (ps_set (i := 6) sc_put_blade_at.nd rfl (Or.inl rfl) (pe_dn T.all_jobs (ok_all_jobs T) (hr.mono (by decide)) (by rfl) (pa_cons (pv 0) pa_nil)))
    (pss_cons (ps_set (i := 7) sc_put_blade_at.nd rfl (Or.inl rfl) (pe_dn T.job_from (ok_job_from T) (hr.mono (by decide)) (by rfl) (pa_cons (pv 0) (pa_cons (pv 6) (pa_cons (pv 5) (pa_cons (pv 3) (pa_cons (pv 4) pa_nil)))))))
    (pss_cons (ps_if (pt_val (pe_dn T.mould_is_used (ok_mould_is_used T) (hr.mono (by decide)) (by rfl) (pa_cons (pv 6) (pa_cons (pv 7) pa_nil))))
    (pss_one (ps_ret (pe_lst (pa_cons (pe_gi T.g_IN_USE (by rfl)) pa_nil))))
    pss_nil)
    (pss_cons (ps_if (pt_cmpR op_ge (pe_callB call_len_seq (by rfl) T.b_len PySem.boot_len (pa_cons (pv 6) pa_nil)) (pe_gi T.g_MOST_JOBS (by rfl)) (nomark _))
    (pss_one (ps_ret (pe_lst (pa_cons (pe_gi T.g_FULL (by rfl)) pa_nil))))
    pss_nil)
    (pss_one (ps_ret (pe_lst (pa_cons (pe_dn T.make_job (ok_make_job T) (hr.mono (by decide)) (by rfl) (pa_cons (pv 0) (pa_cons (pv 2) (pa_cons (pv 7) pa_nil)))) (pa_cons (pe_fld (pv 7) rfl) pa_nil))))))))))))))), ?_⟩
    refine ⟨_, rfl, g, _, 0, _, rfl, rfl, SqL.of hg, rfl, ?_⟩
    refine ⟨_, rfl, g, _, 1, _, rfl, rfl, SqL.of hg, rfl, ?_⟩
    refine ⟨_, rfl, g, _, 2, _, rfl, rfl, SqL.of hg, rfl, ?_⟩
    have es : Kqv4.step (some h) (.at_ n m t) = match gv h.waits n with
      | none => (some h, .num (-2))
      | some b => if h.moulds.length ≤ m then (some h, .num (-2)) else if h.moulds.getD m 0 ≠ b.kind ∨ t < h.minute ∨ h.minute + 300 < t then (some h, .num (-22)) else
        if Kqv4.mouldFree h m t (Kqv4.free h ⟨b, m, t, Kqv4.lifts h (t + b.minutes)⟩ - t) = false then (some h, .num (-17)) else if 12 ≤ (Kqv4.all h).length then (some h, .num (-28)) else (some (Bc.addJ h n ⟨b, m, t, Kqv4.lifts h (t + b.minutes)⟩), .some_ (Kqv4.slot h.jobs) [Kqv4.lifts h (t + b.minutes)]) := rfl
    rw [es] at k
    refine ⟨_, rfl, rd_waiting (T := T) rfl W ⟨f.dw, _, rfl, DGet.k (k := Sum.inl (n : Int)) W.w, _, rfl, ?_⟩⟩
    rcases dict_look W.sw n with ⟨e, v⟩ | ⟨a, b, mm, e, v⟩
    · rw [v]
      simp only [e] at k
      exact iteT (iteT ⟨by show 1 ≤ sizeLine; decide, fun q hq => k _ q (out_ref S (-2) hq)⟩)
    rw [v]
    simp only [e] at k
    refine iteF ⟨_, rfl, _, rfl, p, m, h, rfl, W.cr, _, rfl, ?_⟩
    by_cases c1 : h.moulds.length ≤ m
    · rw [if_pos c1] at k
      rw [decide_eq_false (show ¬ m < h.moulds.length by omega)]
      exact iteT ⟨by show 1 ≤ sizeLine; decide, fun q hq => k _ q (out_ref S (-2) hq)⟩
    rw [if_neg c1] at k
    rw [decide_eq_true (show m < h.moulds.length by omega)]
    refine iteF ?_
    obtain ⟨mk, hmk⟩ : ∃ mk, h.moulds[m]? = some mk := ⟨h.moulds[m]'(by omega), List.getElem?_eq_getElem (by omega)⟩
    have hgd : h.moulds.getD m 0 = mk := by rw [List.getD_eq_getElem?_getD, hmk]; rfl
    rw [hgd] at k
    have bad : (mk ≠ b.kind ∨ t < h.minute ∨ h.minute + 300 < t) → 1 ≤ sizeLine ∧ ∀ q, H q = none → Q (.ref q) (upd H q (.lst [V.int (-22)])) := fun z => by
      rw [if_pos z] at k
      exact ⟨by decide, fun q hq => k _ q (out_ref S (-22) hq)⟩
    refine rd_wget (T := T) rfl rfl W.rd mm ?_
    have hb : BladeAt T H a b := W.wa _ mm
    have at1 : atI (h.moulds.map fun (k : Nat) => V.int k) (m : Int) = some (V.int mk) := atI_nat (by rw [List.getElem?_map, hmk]; rfl)
    show tIfS (tOr (tTest (tOp _ (tOp _ (tFld K (tVar 0) "moulds") _) _)) _) _ _ _ _ _
    unfold tIfS tOr tTest tOp
    by_cases z : mk ≠ b.kind ∨ t < h.minute ∨ h.minute + 300 < t
    · refine rdk_moulds (T := T) rfl W ⟨_, rfl, f.lm, _, _, _, rfl, rfl, SqL.of W.m, at1, rd_kind (T := T) rfl hb ⟨rfl, _, rfl, ite2 (fun _ => iteT (bad z)) fun c2 => ?_⟩⟩
      have c2 : mk = b.kind := by
        by_cases y : mk = b.kind
        · exact y
        · refine absurd ?_ c2
          rw [Bool.not_eq_true', decide_eq_false_iff_not]
          intro u
          injection u with u
          exact y (by omega)
      refine ⟨_, rfl, rd_minute (T := T) rfl W.cr ⟨_, _, rfl, rfl, _, _, rfl, rfl, _, rfl, ite2 (fun c3 => ?_) fun c3 => ⟨_, rfl, iteT (bad z)⟩⟩⟩
      have c3 := of_decide_eq_true c3
      refine ⟨_, _, rfl, rfl, _, rfl, ?_⟩
      rw [decide_eq_false (by omega)]
      exact iteT (bad z)
    rw [if_neg z] at k
    have ne : (!decide (V.int (mk : Int) = V.int (b.kind : Int))) = false := by
      have : mk = b.kind := by omega
      rw [this, decide_eq_true rfl]; rfl
    refine rdk_moulds (T := T) rfl W ⟨_, rfl, f.lm, _, _, _, rfl, rfl, SqL.of W.m, at1, rd_kind (T := T) rfl hb ⟨rfl, _, rfl, ?_⟩⟩
    rw [ne]
    refine iteF ⟨_, rfl, rd_minute (T := T) rfl W.cr ⟨_, _, rfl, rfl, _, _, rfl, rfl, _, rfl, ?_⟩⟩
    rw [decide_eq_true (show (0 : Int) ≤ (t : Int) - (h.minute : Int) by omega)]
    refine iteT ⟨_, _, rfl, rfl, _, rfl, ?_⟩
    rw [decide_eq_true (show (t : Int) - (h.minute : Int) ≤ 300 by omega)]
    refine iteF ?_
    -- jobs = list(works.jobs.values())
    dsimp only [tNext, tSeq, tAsg]
    refine ⟨_, rfl, p, true, h, f, ws, jb, rfl, W, fun l H1 hl s1 J => ?_⟩
    -- job = job_from(works, jobs, blade, mould, begin)
    refine ⟨_, rfl, _, rfl, _, rfl, _, rfl, _, rfl, ?_⟩
    refine ⟨p, l, a, m, t, h, _, b, rfl, W.cr.mono s1, J, W.jl64, hb.mono s1, fun H2 r s2 jr => ?_⟩
    rw [W.simJ.lifts] at jr
    have s02 := s1.trans s2
    have rise : t ≤ Kqv4.lifts h (t + b.minutes) := by have := (Bc.lifts_char h (t + b.minutes)).1; omega
    have mf := Bc.mouldFree_all (j := ⟨b, m, t, Kqv4.lifts h (t + b.minutes)⟩) W.jsPerm G.fl rise
    -- if mould_is_used(jobs, job)
    refine ⟨_, rfl, _, rfl, l, r, h, _, _, rfl, J.mono s2, jr, _, rfl, ?_⟩
    rw [← mf]
    cases u : Kqv4.mouldFree h m t (Kqv4.free h ⟨b, m, t, Kqv4.lifts h (t + b.minutes)⟩ - t) with
    | false =>
      rw [if_pos u] at k
      exact iteT ⟨by show 1 ≤ sizeLine; decide, fun q hq => k _ q (out_same S (s02.trans (same_new hq)) (s02.free hq) upd_same)⟩
    | true =>
      rw [if_neg (by rw [u]; exact fun z => nomatch z)] at k
      refine iteF ?_
      have Jl : ∃ xs, SqL K H2 l xs ∧ xs.length = jb.length := by
        obtain ⟨as, has, pas⟩ := J.mono s2
        exact ⟨_, SqL.of has, by rw [List.length_map, Paired.length pas, List.length_map]⟩
      obtain ⟨xs, hxs, xl⟩ := Jl
      refine ⟨_, rfl, l, _, rfl, .inl hxs, _, _, rfl, rfl, _, rfl, ite2 (fun c4 => ?_) fun c4 => ?_⟩
      · have c4 := of_decide_eq_true c4
        rw [if_pos (by rw [W.jlen]; omega)] at k
        exact ⟨by show 1 ≤ sizeLine; decide, fun q hq => k _ q (out_same S (s02.trans (same_new hq)) (s02.free hq) upd_same)⟩
      have c4 : ¬ (12 : Int) ≤ (xs.length : Int) := fun z => c4 (decide_eq_true z)
      rw [if_neg (by rw [W.jlen]; omega)] at k
      refine ⟨_, rfl, _, rfl, _, rfl, p, a, r, n, b, _, true, h, f, ws, jb, rfl, W.mono s02, mm, jr, by omega, fun H3 W3 jr3 fr => ?_⟩
      refine rd_lifted (T := T) rfl jr3 ⟨by show 2 ≤ sizeLine; decide, fun q hq => k _ q ?_⟩
      exact out_new (ans := [(Kqv4.slot h.jobs : Int), (Kqv4.lifts h (t + b.minutes) : Int)]) (s := some (Bc.addJ h n ⟨b, m, t, Kqv4.lifts h (t + b.minutes)⟩)) ⟨G.add rise (Bc.free_apart (h := h) (j := ⟨b, m, t, Kqv4.lifts h (t + b.minutes)⟩) rfl G.fl u), _, _, W3⟩ (fun c o z nf => fr c o (s02 _ _ z) (fun y => nf (by simp [foot, y])) fun y => nf (by simp [foot, y])) hq
end
end Bp
set_option Elab.async false
set_option linter.all false
set_option maxRecDepth 100000
set_option maxHeartbeats 2000000
namespace Bp
open PySem PySem.Spec PyProof.Rows L2 Bl
open Bc (withJ js_withJ gv Sl js)
open Kqv4Neutral (tell)
theorem cut_one (x : V) (l : List V) : cutV (x :: l) (some 1) none = l := by
  unfold cutV
  rw [show HT.sIx (x :: l).length 0 (some 1) = min 1 (x :: l).length from HT.sIx_nat _ _ 1, HT.sIx_none]
  rw [show min 1 (x :: l).length = 1 by simp]
  show l.take ((x :: l).length - 1) = l
  simp
def AO : List Int → Kqv4.Call → Prop := fun args c => ∃ r : List Nat, r.length ≤ 60 ∧ args = (r.length : Int) :: r.map (fun (k : Nat) => (k : Int)) ∧ c = .order r
def cpB (h : Kqv4.Hall) (x : Nat) : Bool := match gv h.waits x with | none => false | some b => decide (b.kind ∈ h.moulds)
theorem cpB_iff {h : Kqv4.Hall} {x : Nat} : cpB h x = true ↔ ∃ b, gv h.waits x = some b ∧ b.kind ∈ h.moulds := by
  unfold cpB
  cases e : gv h.waits x with
  | none => simp
  | some b => simp
theorem rd_cp {K : PySem.W.Frag} {mg : Str → Option Value} {T : Tx K mg} {i i' : Nat} {σ : L2.St} {Q : VK} {H : Hp} {p : Addr} {h : Kqv4.Hall} {ws : List (Nat × Addr × Kqv4.Blade)} {n : Nat} (hs : σ[i]? = some (some (.ref p))) (hn : σ[i']? = some (some (.int n))) (W : WkR T H p h ws) (q : Q (.bl (cpB h n)) H) :
    tCall (sp_can_be_put T) [] E0 (tCons (tVar i) (tCons (tVar i') tNil)) σ H Q := by
  refine ⟨_, hs, _, hn, p, n, h, ws, rfl, W, fun b e => ?_, fun e => ?_⟩
  · have z : cpB h n = decide (b.kind ∈ h.moulds) := by unfold cpB; rw [e]
    rw [← z]; exact q
  · have z : cpB h n = false := by unfold cpB; rw [e]
    rw [← z]; exact q
section
variable {P : Program} {w : World} {K : PySem.W.Frag} {mg : Str → Option Value} {base : Heap}
theorem ok_tell_order (T : Tx K mg) : FnOk P w K mg base CX0 6 T.tell_order.f T.tell_order.fd ["works", "given"] (SpH T AO) := by
  refine T.tell_order.F.ok sc_tell_order (fun vs H Q E h => ?_) (fun cdv A outer s H vs Q E hr h => ?_)
  · obtain ⟨p, g, f, h, args, c, rfl, _⟩ := h
    rfl
  · obtain ⟨p, g, f, h, _, _, rfl, ⟨l, l60, rfl, rfl⟩, S, hg, k⟩ := h
    obtain ⟨G, ws, jb, W⟩ := id S
    have es : Kqv4.step (some h) (.order l) = (some h, match Kqv4.puts h l with | none => .num (-33) | some g => .num (Kqv4.over g)) := rfl
    rw [es] at k
    have bad : (¬ ∃ g, Kqv4.puts h l = some g) → ∀ H' q, Out T H H' p q f (some h) [-33] → Q (.ref q) H' := fun z H' q o => by
      have e : Kqv4.puts h l = none := by
        cases e : Kqv4.puts h l with
        | none => rfl
        | some g => exact absurd ⟨g, e⟩ z
      simp only [e] at k
      exact k H' q o
    refine ⟨_, (pss_cons (ps_set (i := 2) sc_tell_order.nd rfl (Or.inl rfl) (pe_slice sl_list (pv 1) (po_some pe_int) po_none))
    (pss_cons (ps_if (pt_cmpR op_lt (pe_callB call_lenS (by rfl) T.b_len PySem.boot_len (pa_cons (pe_callTy (call_setL rfl) (by rfl) T.b_set boot_set (pa_cons (pv 2) pa_nil)) pa_nil)) (pe_callB call_len_seq (by rfl) T.b_len PySem.boot_len (pa_cons (pv 2) pa_nil)) (nomark _))
    (pss_one (ps_ret (pe_lst (pa_cons (pe_gi T.g_NOT_POSSIBLE (by rfl)) pa_nil))))
    pss_nil)
    (pss_cons (ps_if (pt_not (pt_val (pe_callB (cr_all rfl) (by rfl) T.b_all boot_all (pa_cons (pe_lc (own := [("number", 3)]) (tt := tYes) (te := (tCall (sp_can_be_put T) [] E0 (tCons (tVar 0) (tCons (tVar 3) tNil)))) rfl sc_tell_order.nd (pi_list (pv 2)) (blkOk_by (by rfl)) (fun _ _ _ _ _ => (pg_name (i := 3) sc_tell_order.nd rfl (Or.inl rfl))) (fun _ _ _ _ _ => pts_nil) (fun _ _ _ _ _ => (pe_dn T.can_be_put (ok_can_be_put T) (hr.mono (by decide)) (by rfl) (pa_cons (pv 0) (pa_cons (pv 3) pa_nil))))) pa_nil))))
    (pss_one (ps_ret (pe_lst (pa_cons (pe_gi T.g_NOT_POSSIBLE (by rfl)) pa_nil))))
    pss_nil)
    (pss_one (ps_ret (pe_lst (pa_cons (pe_dn T.end_of_order (ok_end_of_order T) (hr.mono (by decide)) (by rfl) (pa_cons (pv 0) (pa_cons (pv 2) pa_nil))) pa_nil))))))), ?_⟩
    refine ⟨_, rfl, _, rfl, g, _, rfl, SqL.of hg, fun o ho => ?_⟩
    have ec : cutV (((l.length : Int) :: l.map fun (k : Nat) => (k : Int)).map V.int) (some 1) none = (l.map fun (k : Nat) => (k : Int)).map V.int := by rw [List.map_cons, cut_one]
    rw [ec]
    have s1 := same_new (o := .lst ((l.map fun (k : Nat) => (k : Int)).map V.int)) ho
    have ho1 : (upd H o (.lst ((l.map fun (k : Nat) => (k : Int)).map V.int))) o = some (.lst ((l.map fun (k : Nat) => (k : Int)).map V.int)) := upd_same
    generalize upd H o (.lst ((l.map fun (k : Nat) => (k : Int)).map V.int)) = H1 at s1 ho1 ⊢
    have ndi : (l.map fun (k : Nat) => (k : Int)).Nodup ↔ l.Nodup := by
      constructor
      · exact fun z => List.Pairwise.of_map (S := (· ≠ ·)) (fun (k : Nat) => (k : Int)) (fun a b q e => q (by rw [e])) z
      · exact fun z => List.Pairwise.map (R := (· ≠ ·)) (fun (k : Nat) => (k : Int)) (fun a b q e => q (by omega)) z
    refine ⟨_, rfl, o, _, rfl, SqL.of ho1, by rw [List.length_map]; omega, fun Sx n q nle niff hq => ?_⟩
    have s2 := same_new (o := .set Sx n) hq
    have s02 := s1.trans s2
    refine ⟨q, Sx, n, rfl, upd_same, _, rfl, o, _, rfl, .inl (SqL.of (s2 _ _ ho1)), _, _, rfl, rfl, _, rfl, ite2 (fun c1 => ?_) fun c1 => ?_⟩
    · have c1 := of_decide_eq_true c1
      rw [List.length_map] at c1
      refine ⟨by show 1 ≤ sizeLine; decide, fun r hr' => bad (fun ⟨g, e⟩ => ?_) _ r (out_same S (s02.trans (same_new hr')) (s02.free hr') upd_same)⟩
      have nd := ((Bc.puts_ok l h).mp ⟨g, e⟩).1
      have := niff.mpr (ndi.mpr nd)
      omega
    have c1 : ¬ (n : Int) < (((l.map fun (k : Nat) => (k : Int)).map V.int).length : Int) := fun z => c1 (decide_eq_true z)
    rw [List.length_map] at c1
    have nd : l.Nodup := ndi.mp (niff.mp (by omega))
    have ho2 := s2 _ _ ho1
    generalize upd H1 q (.set Sx n) = H2 at s02 ho2 ⊢
    have en : (l.map fun (k : Nat) => (k : Int)).map V.int = nums l := by rw [List.map_map]; rfl
    rw [en] at ho2
    have W2 := W.rd.mono s02
    refine ⟨_, rfl, o, rfl, ⟨_, SqL.of ho2⟩, ?_⟩
    refine lc_paired (i := 3) (ys := l) (R := fun v (y : Nat) => v = V.int y) (paired_nums l) ho2 (by show 3 < 4; decide) (by unfold nums; rw [List.length_map, sizeLine_eq]; omega) (fun _ => true) (fun y => V.bl (cpB h y)) (fun x y _ H' Q' _ z => z) ?_ ?_
    · rintro v y rfl _ H' Q' sm z
      exact rd_cp (T := T) rfl rfl (W2.mono sm) z
    intro D hD
    rw [List.filter_eq_self.mpr (fun _ _ => rfl)]
    have s3 := same_new (o := .lst (l.map fun y => V.bl (cpB h y))) hD
    have s03 := s02.trans s3
    refine ⟨D, l.map (cpB h), rfl, SqL.of (by rw [upd_same, List.map_map]; rfl), _, rfl, ?_⟩
    have ho3 := s3 _ _ ho2
    generalize upd H2 D (.lst (l.map fun y => V.bl (cpB h y))) = H3 at s03 ho3 ⊢
    have ea : (l.map (cpB h)).all id = l.all (cpB h) := by rw [List.all_map]; rfl
    rw [ea]
    cases ca : l.all (cpB h) with
    | false =>
      have no : ¬ ∃ g, Kqv4.puts h l = some g := fun ⟨g, e⟩ => by
        have z := ((Bc.puts_ok l h).mp ⟨g, e⟩).2
        have : l.all (cpB h) = true := List.all_eq_true.mpr fun x hx => cpB_iff.mpr (z x hx)
        rw [ca] at this
        cases this
      exact iteT ⟨by show 1 ≤ sizeLine; decide, fun r hr' => bad no _ r (out_same S (s03.trans (same_new hr')) (s03.free hr') upd_same)⟩
    | true =>
      refine iteF ?_
      have can : ∀ x ∈ l, ∃ b, gv h.waits x = some b ∧ b.kind ∈ h.moulds := fun x hx => cpB_iff.mp (List.all_eq_true.mp ca x hx)
      obtain ⟨g', hg'⟩ := (Bc.puts_ok l h).mpr ⟨nd, can⟩
      simp only [hg'] at k
      have l5 : l.length ≤ 5 := by
        have := nd.length_le_of_subset (l₂ := Kqv4.waiting h) fun x hx => let ⟨b, e, _⟩ := can x hx; Bc.mem_waiting.mpr ⟨b, e⟩
        have := W.wlen
        have := W.l5
        omega
      refine ⟨_, rfl, _, rfl, p, o, l, g', true, h, f, ws, jb, rfl, W.mono s03, ho3, l5, hg', fun H4 s4 => ⟨by show 1 ≤ sizeLine; decide, fun r hr' => k _ r ?_⟩⟩
      exact out_same S ((s03.trans s4).trans (same_new hr')) ((s03.trans s4).free hr') upd_same
end
end Bp
set_option Elab.async false
set_option linter.all false
set_option maxRecDepth 100000
set_option maxHeartbeats 2000000
namespace Bp
open PySem PySem.Spec PyProof.Rows L2 Bl
open Bc (withJ js_withJ gv Sl js)
open Kqv4Neutral (tell)
section
variable {P : Program} {w : World} {K : PySem.W.Frag} {mg : Str → Option Value} {base : Heap}
theorem Wk.lock {T : Tx K mg} {H : Hp} {p : Addr} {st : Bool} {h : Kqv4.Hall} {f : Ft} {ws jb} (W : Wk T H p st h f ws jb) (od : Obj) : WkR T (upd H f.dw (.frz od (.dK (ws.map kv)))) p h ws :=
  ⟨⟨st, f.dx, f.lm, f.dw, f.dj, by rw [upd_ne W.pw]; exact W.o, by rw [upd_ne W.mw]; exact W.m, .inr ⟨od, upd_same⟩⟩, fun x hx => (W.wa x hx).upd W.w dk_nb, W.sw⟩
theorem upd_back {H : Hp} {d : Addr} {o u : HO} (h : H d = some o) : upd (upd H d u) d o = H := by
  funext b
  unfold upd
  split
  · rename_i e; rw [e, h]
  · rfl
theorem paired_map {α β : Type} (f : α → β) : ∀ (l : List α), Paired (fun (x : β) (y : α) => x = f y) (l.map f) l
  | [] => .nil
  | _ :: l => .cons rfl (paired_map f l)
theorem Wk.wperm {T : Tx K mg} {H : Hp} {p : Addr} {st : Bool} {h : Kqv4.Hall} {f : Ft} {ws jb} (W : Wk T H p st h f ws jb) : (ws.map fun x => x.1).Perm (Kqv4.waiting h) := by
  have := Bc.waiting_perm W.sw
  rw [List.map_map] at this
  exact this
def sp_all_can_be_put (T : Tx K mg) : Sp := fun vs H Q _ => ∃ (p : Addr) (st : Bool) (h : Kqv4.Hall) (f : Ft) (ws : List (Nat × Addr × Kqv4.Blade)) (jb : List (Nat × Addr × Kqv4.Job)), vs = [.ref p] ∧ Wk T H p st h f ws jb ∧
  ∀ H', Same H H' → Q (.bl ((Kqv4.waiting h).all (cpB h))) H'
theorem ok_all_can_be_put (T : Tx K mg) : FnOk P w K mg base CX0 3 T.all_can_be_put.f T.all_can_be_put.fd ["works"] (sp_all_can_be_put T) := by
  refine T.all_can_be_put.F.ok sc_all_can_be_put (fun vs H Q E h => ?_) (fun cdv A outer s H vs Q E hr h => ?_)
  · obtain ⟨p, st, h, f, ws, jb, rfl, _⟩ := h
    rfl
  · obtain ⟨p, st, h, f, ws, jb, rfl, W, k⟩ := h
    refine ⟨_, (pss_one (ps_ret (pe_callB (cr_all rfl) (by rfl) T.b_all boot_all (pa_cons (pe_lock (pe_lc (own := [("number", 1)]) (tt := tYes) (te := (tCall (sp_can_be_put T) [] E0 (tCons (tVar 0) (tCons (tVar 1) tNil)))) rfl sc_all_can_be_put.nd (pi_keys (pe_fld (pv 0) rfl)) (blkOk_by (by rfl)) (fun _ _ _ _ _ => (pg_name (i := 1) sc_all_can_be_put.nd rfl (Or.inl rfl))) (fun _ _ _ _ _ => pts_nil) (fun _ _ _ _ _ => (pe_dn T.can_be_put (ok_can_be_put T) (hr.mono (by decide)) (by rfl) (pa_cons (pv 0) (pa_cons (pv 1) pa_nil)))))) pa_nil)))), ?_⟩
    refine ⟨f.dw, _, W.w, True.intro, fun od => ?_⟩
    have R := W.lock od
    have hdw : (upd H f.dw (.frz od (.dK (ws.map kv)))) f.dw = some (.frz od (.dK (ws.map kv))) := upd_same
    refine ⟨_, rfl, p, _, _, _, _, rfl, (by rw [upd_ne W.pw]; exact W.o), T.Works.cl, T.n_Works_waiting, f_works_waiting .., f.dw, od, rfl, .inl ⟨_, hdw, ?_⟩⟩
    refine lc_keys (i := 1) (ys := ws) (R := fun x y => x = kv y) (paired_map kv ws) hdw (by show 1 < 2; decide) (by rw [List.length_map, sizeLine_eq]; have := W.l5; omega) (fun y => V.bl (cpB h y.1)) ?_ ?_
    · rintro x y rfl H' Q' sm z
      exact rd_cp (T := T) rfl rfl (R.mono sm) z
    intro D hD
    have nd : f.dw ≠ D := ne_of_none hdw hD
    have hD0 : H D = none := by rw [upd_ne (Ne.symm nd)] at hD; exact hD
    refine ⟨by rw [upd_ne nd]; exact hdw, ?_⟩
    have e : upd (upd (upd H f.dw (.frz od (.dK (ws.map kv)))) D (.lst (ws.map fun y => V.bl (cpB h y.1)))) f.dw (.dK (ws.map kv)) = upd H D (.lst (ws.map fun y => V.bl (cpB h y.1))) := by
      funext b'
      unfold upd
      split
      · rename_i y; rw [y, if_neg nd, W.w]
      · rfl
    show tNil _ _ _
    rw [e]
    refine ⟨D, ws.map fun y => cpB h y.1, rfl, SqL.of (by rw [upd_same, List.map_map]; rfl), ?_⟩
    have ea : (ws.map fun y => cpB h y.1).all id = (Kqv4.waiting h).all (cpB h) := by
      rw [Bool.eq_iff_iff, List.all_eq_true, List.all_eq_true]
      constructor
      · intro z x hx
        obtain ⟨y, hy, rfl⟩ := List.mem_map.mp (W.wperm.mem_iff.mpr hx)
        exact z _ (List.mem_map.mpr ⟨y, hy, rfl⟩)
      · intro z x hx
        obtain ⟨y, hy, rfl⟩ := List.mem_map.mp hx
        exact z _ (W.wperm.mem_iff.mp (List.mem_map.mpr ⟨y, hy, rfl⟩))
    rw [ea]
    exact k _ (same_new hD0)
theorem plan_not {h : Kqv4.Hall} (e : (Kqv4.waiting h).all (cpB h) = false) : Kqv4.plan h = none := by
  rw [List.all_eq_false] at e
  obtain ⟨x, hx, n⟩ := e
  obtain ⟨b, eb⟩ := Bc.mem_waiting.mp hx
  refine Bc.plan_none eb fun m => n (cpB_iff.mpr ⟨b, eb, m⟩)
theorem plan_can {h : Kqv4.Hall} (e : (Kqv4.waiting h).all (cpB h) = true) : ∀ x ∈ Kqv4.waiting h, ∃ b, gv h.waits x = some b ∧ b.kind ∈ h.moulds := fun x hx => cpB_iff.mp (List.all_eq_true.mp e x hx)
theorem ok_tell_plan (T : Tx K mg) : FnOk P w K mg base CX0 13 T.tell_plan.f T.tell_plan.fd ["works", "given"] (SpH T (A0 .plan)) := by
  refine T.tell_plan.F.ok sc_tell_plan (fun vs H Q E h => ?_) (fun cdv A outer s H vs Q E hr h => ?_)
  · obtain ⟨p, g, f, h, args, c, rfl, _⟩ := h
    rfl
  · obtain ⟨p, g, f, h, _, _, rfl, ⟨rfl, rfl⟩, S, hg, k⟩ := h
    obtain ⟨G, ws, jb, W⟩ := id S
    have es : Kqv4.step (some h) .plan = (some h, match Kqv4.plan h with | none => .num (-33) | some (t, l) => .some_ t l) := rfl
    rw [es] at k
    refine ⟨_, (pss_cons (ps_if (pt_not (pt_val (pe_dn T.all_can_be_put (ok_all_can_be_put T) (hr.mono (by decide)) (by rfl) (pa_cons (pv 0) pa_nil))))
    (pss_one (ps_ret (pe_lst (pa_cons (pe_gi T.g_NOT_POSSIBLE (by rfl)) pa_nil))))
    pss_nil)
    (pss_cons (ps_set (i := 2) sc_tell_plan.nd rfl (Or.inl rfl) (pe_dn T.best_order (ok_best_order T) (hr.mono (by decide)) (by rfl) (pa_cons (pv 0) pa_nil)))
    (pss_one (ps_ret (pe_op op_cat (pe_lst (pa_cons (pe_ix ix_tup (pv 2) pe_int (fun _ _ => rfl)) pa_nil)) (pe_ix ix_tup (pv 2) pe_int (fun _ _ => rfl))))))), ?_⟩
    refine ⟨_, rfl, p, true, h, f, ws, jb, rfl, W, fun H0 s0 => ⟨_, rfl, ?_⟩⟩
    cases ca : (Kqv4.waiting h).all (cpB h) with
    | false =>
      simp only [plan_not ca] at k
      exact iteT ⟨by show 1 ≤ sizeLine; decide, fun q hq => k _ q (out_same S (s0.trans (same_new hq)) (s0.free hq) upd_same)⟩
    | true =>
      refine iteF ?_
      have can' := plan_can ca
      obtain ⟨t, l, g', ep, _, _, lnd, lmem⟩ := Bc.plan_some can'
      simp only [ep] at k
      refine ⟨_, rfl, p, true, h, f, ws, jb, rfl, W.mono s0, can', fun H1 v s1 F => ?_⟩
      rw [ep] at F
      obtain ⟨a, la, rfl, ha, hla⟩ := F
      refine ⟨_, rfl, a, _, 0, _, rfl, rfl, SqT.of ha, rfl, by show 1 ≤ sizeLine; decide, fun l1 hl1 => ?_⟩
      have s2 := same_new (o := .lst [V.int (t : Int)]) hl1
      refine ⟨_, rfl, a, _, 1, _, rfl, rfl, SqT.of (s2 _ _ ha), rfl, l1, la, _, _, rfl, rfl, upd_same, s2 _ _ hla, ?_, fun q hq => k _ q ?_⟩
      · have := lnd.length_le_of_subset (l₂ := Kqv4.waiting h) fun x hx => (lmem x).mp hx
        have := W.wlen
        have := W.l5
        unfold nums
        rw [List.length_map, sizeLine_eq]
        show 1 + _ ≤ _
        omega
      · have s02 := (s0.trans s1).trans s2
        refine out_same S (s02.trans (same_new hq)) (s02.free hq) ?_
        rw [upd_same]
        show some (HO.lst (V.int (t : Int) :: nums l)) = some (.lst (V.int (t : Int) :: (l.map fun (x : Nat) => (x : Int)).map V.int))
        rw [List.map_map]
        rfl
theorem ok_follow_plan (T : Tx K mg) : FnOk P w K mg base CX0 13 T.follow_plan.f T.follow_plan.fd ["works", "given"] (SpH T (A0 .follow)) := by
  refine T.follow_plan.F.ok sc_follow_plan (fun vs H Q E h => ?_) (fun cdv A outer s H vs Q E hr h => ?_)
  · obtain ⟨p, g, f, h, args, c, rfl, _⟩ := h
    rfl
  · obtain ⟨p, g, f, h, _, _, rfl, ⟨rfl, rfl⟩, S, hg, k⟩ := h
    obtain ⟨G, ws, jb, W⟩ := id S
    have es : Kqv4.step (some h) .follow = match Kqv4.plan h with
      | none => (some h, .num (-33))
      | some (t, l) => if 12 < (Kqv4.all h).length + l.length then (some h, .num (-28)) else match Kqv4.puts h l with
        | none => (some h, .num (-33))
        | some g => (some g, .num t) := rfl
    rw [es] at k
    refine ⟨_, (pss_cons (ps_if (pt_not (pt_val (pe_dn T.all_can_be_put (ok_all_can_be_put T) (hr.mono (by decide)) (by rfl) (pa_cons (pv 0) pa_nil))))
    (pss_one (ps_ret (pe_lst (pa_cons (pe_gi T.g_NOT_POSSIBLE (by rfl)) pa_nil))))
    pss_nil)
    (pss_cons (ps_if (pt_cmpR op_gt (pe_op op_add (pe_callB call_lenD (by rfl) T.b_len PySem.boot_len (pa_cons (pe_fld (pv 0) rfl) pa_nil)) (pe_callB call_lenD (by rfl) T.b_len PySem.boot_len (pa_cons (pe_fld (pv 0) rfl) pa_nil))) (pe_gi T.g_MOST_JOBS (by rfl)) (nomark _))
    (pss_one (ps_ret (pe_lst (pa_cons (pe_gi T.g_FULL (by rfl)) pa_nil))))
    pss_nil)
    (pss_cons (ps_set (i := 2) sc_follow_plan.nd rfl (Or.inl rfl) (pe_dn T.best_order (ok_best_order T) (hr.mono (by decide)) (by rfl) (pa_cons (pv 0) pa_nil)))
    (pss_cons (ps_for PassesOwn.never rfl (pi_list (pe_ix ix_tup (pv 2) pe_int (fun _ _ => rfl))) (pg_name (i := 3) sc_follow_plan.nd rfl (Or.inl rfl))
    (pss_one (ps_expr (pe_dn T.put_into_best (ok_put_into_best T) (hr.mono (by decide)) (by rfl) (pa_cons (pv 0) (pa_cons (pv 3) pa_nil))))))
    (pss_one (ps_ret (pe_lst (pa_cons (pe_ix ix_tup (pv 2) pe_int (fun _ _ => rfl)) pa_nil)))))))), ?_⟩
    refine ⟨_, rfl, p, true, h, f, ws, jb, rfl, W, fun H0 s0 => ⟨_, rfl, ?_⟩⟩
    cases ca : (Kqv4.waiting h).all (cpB h) with
    | false =>
      simp only [plan_not ca] at k
      exact iteT ⟨by show 1 ≤ sizeLine; decide, fun q hq => k _ q (out_same S (s0.trans (same_new hq)) (s0.free hq) upd_same)⟩
    | true =>
      refine iteF ?_
      have can' := plan_can ca
      obtain ⟨t, l, g', ep, hg', et, lnd, lmem⟩ := Bc.plan_some can'
      simp only [ep] at k
      have W0 := W.mono s0
      have ll : l.length = ws.length := by rw [Bc.same_len lnd (Bc.waiting_nodup h) lmem]; exact W.wlen
      refine rd_jobs (T := T) rfl W0 ⟨f.dj, _, rfl, W0.j, rd_waiting (T := T) rfl W0 ⟨f.dw, _, rfl, W0.w, _, _, rfl, rfl, _, _, rfl, rfl, _, rfl, ite2 (fun c1 => ?_) fun c1 => ?_⟩⟩
      · have c1 := of_decide_eq_true c1
        rw [List.length_map, List.length_map] at c1
        have c2 : 12 < (Kqv4.all h).length + l.length := by rw [W.jlen]; omega
        simp only [c2, if_true] at k
        exact ⟨by show 1 ≤ sizeLine; decide, fun q hq => k _ q (out_same S (s0.trans (same_new hq)) (s0.free hq) upd_same)⟩
      rw [List.length_map, List.length_map] at c1
      have c1 : ¬ (12 : Int) < (jb.length : Int) + (ws.length : Int) := fun z => c1 (decide_eq_true z)
      have c2 : ¬ 12 < (Kqv4.all h).length + l.length := by rw [W.jlen]; omega
      simp only [c2, if_false, hg'] at k
      refine ⟨_, rfl, p, true, h, f, ws, jb, rfl, W0, can', fun H1 v s1 F => ?_⟩
      rw [ep] at F
      obtain ⟨a, la, rfl, ha, hla⟩ := F
      have s01 := s0.trans s1
      have W1 := W.mono s01
      have aw : a ≠ f.dw := ne_of ha W1.w (fun z => nomatch z)
      have aj : a ≠ f.dj := ne_of ha W1.j (fun z => nomatch z)
      have lw : la ≠ f.dw := ne_of hla W1.w (fun z => nomatch z)
      have lj : la ≠ f.dj := ne_of hla W1.j (fun z => nomatch z)
      refine ⟨_, rfl, a, _, 1, _, rfl, rfl, SqT.of ha, rfl, la, rfl, ⟨_, SqL.of hla⟩, for_list (K := K) (a := la) (xs := nums l) (fun i σ H' => ∃ (v : Option V) (gi : Kqv4.Hall) (ws' : List (Nat × Addr × Kqv4.Blade)) (jb' : List (Nat × Addr × Kqv4.Job)), σ = [some (.ref p), some (.ref g), some (.ref a), v] ∧ Kqv4.puts h (l.take i) = some gi ∧ Good gi ∧ Wk T H' p true gi f ws' jb' ∧ jb'.length = jb.length + i ∧ ∀ c o, H1 c = some o → c ≠ f.dw → c ≠ f.dj → H' c = some o)
        ⟨none, h, ws, jb, rfl, rfl, G, W1, rfl, fun _ _ z _ _ => z⟩ (fun i σ H' _ ⟨_, _, _, _, _, _, _, _, _, fr⟩ => SqL.of (fr _ _ hla lw lj)) ?_ ?_⟩
      · rintro i y σ H' hi ⟨v, gi, ws', jb', rfl, hgi, Gi, Wi, jl, fr⟩
        unfold nums at hi
        rw [List.getElem?_map] at hi
        obtain ⟨x, hx, rfl⟩ := Option.map_eq_some_iff.mp hi
        have hil : i < l.length := (List.getElem?_eq_some_iff.mp hx).1
        obtain ⟨b, j, hb, hj, hp'⟩ := Bc.puts_step2 hg' hx hgi
        obtain ⟨ab, mb⟩ := mem_ws Wi.rd hb
        refine ⟨_, rfl, _, rfl, p, ab, x, b, j, true, gi, f, ws', jb', rfl, Wi, mb, hj, by omega, fun H2 r W2 jr fr2 => ?_⟩
        have rise := (Bc.best_rise hj).1
        exact ⟨_, Bc.addJ gi x j, _, _, rfl, hp', Gi.add (by omega) (Bc.best_apart hj), W2, by rw [List.length_append]; show _ + 1 = _; omega, fun c o z h1 h2 => fr2 c o (fr c o z h1 h2) h1 h2⟩
      · rintro σ H' ⟨v, gi, ws', jb', rfl, hgi, Gi, Wi, jl, fr⟩
        unfold nums at hgi
        rw [List.length_map, List.take_length, hg'] at hgi
        have hgi : g' = gi := Option.some.inj hgi
        subst hgi
        refine ⟨_, rfl, a, _, 0, _, rfl, rfl, SqT.of (fr _ _ ha aw aj), rfl, by show 1 ≤ sizeLine; decide, fun q hq => k _ q ?_⟩
        exact out_new (ans := [(t : Int)]) (s := some g') ⟨Gi, _, _, Wi⟩ (fun c o z nf => fr c o (s01 _ _ z) (fun y => nf (by simp [foot, y])) fun y => nf (by simp [foot, y])) hq
end
end Bp
set_option Elab.async false
set_option linter.all false
set_option maxRecDepth 100000
set_option maxHeartbeats 2000000
namespace Bp
open PySem PySem.Spec PyProof.Rows L2 Bl
open Bc (withJ js_withJ gv Sl js)
open Kqv4Neutral (tell)
theorem filter_key {α : Type} {A B : List (Nat × α)} {x : Nat × α} (nd : ((A ++ x :: B).map (·.1)).Nodup) : (A ++ x :: B).filter (fun y => y.1 != x.1) = A ++ B := by
  rw [List.map_append, List.map_cons, List.nodup_append] at nd
  obtain ⟨_, n2, n3⟩ := nd
  obtain ⟨n4, n5⟩ := List.nodup_cons.mp n2
  rw [List.filter_append, List.filter_cons]
  have e1 : A.filter (fun y => y.1 != x.1) = A := List.filter_eq_self.mpr fun y hy => by
    have := n3 y.1 (List.mem_map.mpr ⟨y, hy, rfl⟩) x.1 (by simp)
    simpa using this
  have e2 : B.filter (fun y => y.1 != x.1) = B := List.filter_eq_self.mpr fun y hy => by
    have : y.1 ≠ x.1 := fun z => n4 (by rw [← z]; exact List.mem_map.mpr ⟨y, hy, rfl⟩)
    simpa using this
  rw [e1, e2]
  simp
section
variable {K : PySem.W.Frag} {mg : Str → Option Value} {T : Tx K mg} {i i' : Nat} {σ : L2.St} {Q : VK} {H : Hp} {p : Addr} {st : Bool} {h : Kqv4.Hall} {f : Ft} {ws : List (Nat × Addr × Kqv4.Blade)} {jb : List (Nat × Addr × Kqv4.Job)} {n : Nat} {a : Addr} {b : Kqv4.Blade} {j : Kqv4.Job}
theorem rd_jfree (hs : σ[i]? = some (some (.ref p))) (hn : σ[i']? = some (some (.int n))) (W : Wk T H p st h f ws jb) (m : (n, a, j) ∈ jb) (q : Q (.int (j.lift + h.lift + h.clean : Nat)) H) : tFld K (tDGet (tFld K (tVar i) "jobs") (tVar i')) "free" σ H Q := by
  show tDGet _ _ _ _ _
  obtain ⟨dx, ba, e, _⟩ := W.ja _ m
  exact rd_jget hs hn W m ⟨a, _, dx, _, _, rfl, e, T.Job.cl, T.n_Job_free, f_job_free .., q⟩
theorem Wk.setF (W : Wk T H p st h f ws jb) (m d : Nat) : Wk T (upd H p (.ins T.Works.C f.dx (worksF st { h with minute := m, done := d } f.lm f.dw f.dj))) p st { h with minute := m, done := d } f ws jb :=
  ⟨upd_same, by rw [upd_ne (Ne.symm W.pm)]; exact W.m, by rw [upd_ne (Ne.symm W.pw)]; exact W.w, by rw [upd_ne (Ne.symm W.pj)]; exact W.j, fun x hx => (W.wa x hx).upd W.o wk_nb, fun x hx => (W.ja x hx).upd W.o wk_nj wk_nb, W.sw, W.sj, W.ne, W.l4, W.l5, W.l12⟩
theorem Wk.reJ (W : Wk T H p st h f ws jb) {jt : List (Option Kqv4.Job)} (s : Sl (jb.map pr) jt) : Wk T H p st { h with jobs := jt } f ws jb :=
  ⟨W.o, W.m, W.w, W.j, W.wa, W.ja, W.sw, s, W.ne, W.l4, W.l5, W.l12⟩
end
section
variable {P : Program} {w : World} {K : PySem.W.Frag} {mg : Str → Option Value} {base : Heap}
theorem ok_pass_by (T : Tx K mg) : FnOk P w K mg base CX0 1 T.pass_by.f T.pass_by.fd ["works", "given"] (SpH T (A1 .pass)) := by
  refine T.pass_by.F.ok sc_pass_by (fun vs H Q E h => ?_) (fun cdv A outer s H vs Q E hr h => ?_)
  · obtain ⟨p, g, f, h, args, c, rfl, _⟩ := h
    rfl
  · obtain ⟨p, g, f, h, _, _, rfl, ⟨n, rfl, rfl⟩, S, hg, k⟩ := h
    have hu := hu_of hr
    obtain ⟨G, ws, jb, W⟩ := id S
    have es : Kqv4.step (some h) (.pass n) = if n = 0 ∨ 1000 < n ∨ 100000 < h.minute + n then (some h, .num (-22)) else (some (Kqv4.gone h (h.minute + n)), .num (h.minute + n : Nat)) := rfl
    rw [es] at k
    have bad : (n = 0 ∨ 1000 < n ∨ 100000 < h.minute + n) → 1 ≤ sizeLine ∧ ∀ q, H q = none → Q (.ref q) (upd H q (.lst [V.int (-22)])) := fun z => by
      rw [if_pos z] at k
      exact ⟨by decide, fun q hq => k _ q (out_ref S (-22) hq)⟩
    refine ⟨_, (pss_cons (ps_set (i := 2) sc_pass_by.nd rfl (Or.inl rfl) (pe_ix ix_list (pv 1) pe_int (fun _ _ => rfl)))
    (pss_cons (ps_if (pw_or (pt_not (pt_chain op_le op_le pe_int (pv 2) (pe_gi T.g_LONGEST_PASS (by rfl)))) (pw_or1 (pt_cmpR op_gt (pe_op op_add (pe_fld (pv 0) rfl) (pv 2)) (pe_gi T.g_LAST_MINUTE (by rfl)) (nomark _)))).pt
    (pss_one (ps_ret (pe_lst (pa_cons (pe_gi T.g_OUT_OF_RANGE (by rfl)) pa_nil))))
    pss_nil)
    (pss_cons (ps_fldaug (pv 0) (pv 2) in_add)
    (pss_cons (ps_for PassesOwn.never rfl (pi_list (pe_callTy (call_listD rfl) (by rfl) T.b_list boot_list (pa_cons (pe_fld (pv 0) rfl) pa_nil))) (pg_name (i := 3) sc_pass_by.nd rfl (Or.inl rfl))
    (pss_one (ps_if (pt_cmpR op_le (pe_fld (pe_dget hu (pe_fld (pv 0) rfl) (pv 3) (fun _ _ => rfl)) rfl) (pe_fld (pv 0) rfl) (nomark _))
      (pss_cons (ps_expr (pe_dpop1 (pe_fld (pv 0) rfl) (pv 3) ⟨rfl, rfl, rfl, rfl⟩))
        (pss_one (ps_fldaug (pv 0) pe_int in_add)))
      pss_nil)))
    (pss_one (ps_ret (pe_lst (pa_cons (pe_fld (pv 0) rfl) pa_nil)))))))), ?_⟩
    refine ⟨_, rfl, g, _, 0, _, rfl, rfl, SqL.of hg, rfl, ?_⟩
    refine ⟨_, rfl, _, _, rfl, rfl, _, rfl, ite2 (fun c1 => ?_) fun c1 => ?_⟩
    case refine_2 =>
      have c1 : ¬ (1 : Int) ≤ (n : Int) := fun z => c1 (decide_eq_true z)
      exact ⟨_, rfl, iteT (iteT (bad (by omega)))⟩
    have c1 := of_decide_eq_true c1
    refine ⟨_, _, rfl, rfl, _, rfl, ?_⟩
    by_cases c2 : (n : Int) ≤ 1000
    case neg =>
      rw [decide_eq_false c2]
      exact iteT (iteT (bad (by omega)))
    rw [decide_eq_true c2]
    refine iteF ?_
    unfold tTest tOp
    refine rd_minute (T := T) rfl W.cr ⟨_, rfl, _, _, rfl, rfl, _, _, rfl, rfl, _, rfl, ite2 (fun c3 => ?_) fun c3 => ?_⟩
    · have c3 := of_decide_eq_true c3
      exact bad (by omega)
    have c3 : ¬ (100000 : Int) < (h.minute : Int) + (n : Int) := fun z => c3 (decide_eq_true z)
    rw [if_neg (by omega)] at k
    have nz : ¬ (n = 0 ∨ 1000 < n ∨ 100000 < h.minute + n) := by omega
    -- works.minute += minutes
    refine ⟨_, rfl, p, _, f.dx, _, _, rfl, W.o, T.Works.cl, T.n_Works_minute, f_works_minute .., _, rfl, _, _, rfl, rfl, f.dx, _, W.o, (by show 8 < 1000; decide), ?_⟩
    have W1 := W.setF (h.minute + n) h.done
    show tFld K (tVar 0) "jobs" _ (upd H p (.ins T.Works.C f.dx (worksF true { h with minute := h.minute + n, done := h.done } f.lm f.dw f.dj))) _
    have fr1 : ∀ c o, H c = some o → c ∉ foot p f → (upd H p (.ins T.Works.C f.dx (worksF true { h with minute := h.minute + n, done := h.done } f.lm f.dw f.dj))) c = some o := fun c o z nf => by
      rw [upd_ne (fun y => nf (by simp [foot, y]))]; exact z
    generalize upd H p (.ins T.Works.C f.dx (worksF true { h with minute := h.minute + n, done := h.done } f.lm f.dw f.dj)) = H1 at W1 fr1 ⊢
    -- list(works.jobs)
    refine rd_jobs (T := T) rfl W1 ⟨f.dj, _, rfl, .inl W1.j, fun l hl => ?_⟩
    have el : ((jb.map kv).map fun p => kV p.1) = jb.map fun x => V.int (x.1 : Int) := by rw [List.map_map]; rfl
    rw [el]
    have s1 := same_new (o := .lst (jb.map fun x => V.int (x.1 : Int))) hl
    have lf : l ∉ foot p f := fun m => by obtain ⟨o, z⟩ := W1.foot_some l m; rw [hl] at z; cases z
    have hl1 : (upd H1 l (.lst (jb.map fun x => V.int (x.1 : Int)))) l = some (.lst (jb.map fun x => V.int (x.1 : Int))) := upd_same
    refine ⟨l, rfl, ⟨_, SqL.of hl1⟩, for_list (K := K) (a := l) (xs := jb.map fun x => V.int (x.1 : Int)) (fun i σ H' => ∃ (v : Option V) (jt : List (Option Kqv4.Job)), σ = [some (.ref p), some (.ref g), some (.int n), v] ∧
      Wk T H' p true { h with minute := h.minute + n, done := h.done + ((jb.take i).filter fun x => decide (Kqv4.free h x.2.2 ≤ h.minute + n)).length, jobs := jt } f ws (((jb.take i).filter fun x => !decide (Kqv4.free h x.2.2 ≤ h.minute + n)) ++ jb.drop i) ∧
      ∀ c o, (upd H1 l (.lst (jb.map fun x => V.int (x.1 : Int)))) c = some o → c ∉ foot p f → H' c = some o)
      ⟨none, h.jobs, rfl, (W1.mono s1), fun _ _ z _ => z⟩ (fun i σ H' _ ⟨_, _, _, _, fr⟩ => SqL.of (fr _ _ hl1 lf)) ?_ ?_⟩
    · rintro i y σ H' hi ⟨v, jt, rfl, Wi, fr⟩
      rw [List.getElem?_map] at hi
      obtain ⟨⟨x, ax, jx⟩, hx, rfl⟩ := Option.map_eq_some_iff.mp hi
      obtain ⟨hil, ex⟩ := List.getElem?_eq_some_iff.mp hx
      have ed : jb.drop i = (x, ax, jx) :: jb.drop (i + 1) := by rw [List.drop_eq_getElem_cons hil, ex]
      rw [ed] at Wi
      have mx : (x, ax, jx) ∈ ((jb.take i).filter fun x => !decide (Kqv4.free h x.2.2 ≤ h.minute + n)) ++ (x, ax, jx) :: jb.drop (i + 1) := by simp
      show tFld K (tDGet (tFld K (tVar 0) "jobs") (tVar 3)) "free" _ _ _
      refine rd_jfree (T := T) rfl rfl Wi mx (rd_minute (T := T) rfl Wi.cr ⟨_, _, rfl, rfl, _, rfl, ite2 (fun c4 => ?_) fun c4 => ?_⟩)
      · have c4 : ((jx.lift + h.lift + h.clean : Nat) : Int) ≤ ((h.minute + n : Nat) : Int) := of_decide_eq_true c4
        have c5 : decide (Kqv4.free h jx ≤ h.minute + n) = true := decide_eq_true (by unfold Kqv4.free; omega)
        refine rd_jpop (T := T) rfl rfl Wi mx ?_
        have W2 := Wi.dropJ x
        have nd : ((((jb.take i).filter fun x => !decide (Kqv4.free h x.2.2 ≤ h.minute + n)) ++ (x, ax, jx) :: jb.drop (i + 1)).map (·.1)).Nodup := by
          rw [← keys_pr]; exact Wi.sj.nd
        have fk := filter_key (x := (x, ax, jx)) nd
        have fk : ((((jb.take i).filter fun x => !decide (Kqv4.free h x.2.2 ≤ h.minute + n)) ++ (x, ax, jx) :: jb.drop (i + 1)).filter fun y => y.1 != x) = ((jb.take i).filter fun x => !decide (Kqv4.free h x.2.2 ≤ h.minute + n)) ++ jb.drop (i + 1) := fk
        rw [fk] at W2 ⊢
        refine ⟨_, rfl, p, _, f.dx, _, _, rfl, W2.o, T.Works.cl, T.n_Works_done, f_works_done .., _, _, rfl, rfl, f.dx, _, W2.o, (by show 8 < 1000; decide), ?_⟩
        have W3 := W2.setF (h.minute + n) (h.done + ((jb.take (i + 1)).filter fun x => decide (Kqv4.free h x.2.2 ≤ h.minute + n)).length)
        have t1 : (jb.take (i + 1)).filter (fun x => !decide (Kqv4.free h x.2.2 ≤ h.minute + n)) = (jb.take i).filter fun x => !decide (Kqv4.free h x.2.2 ≤ h.minute + n) := by
          rw [take_snoc hx, List.filter_append]
          simp [c5]
        have t2 : ((jb.take (i + 1)).filter fun x => decide (Kqv4.free h x.2.2 ≤ h.minute + n)).length = ((jb.take i).filter fun x => decide (Kqv4.free h x.2.2 ≤ h.minute + n)).length + 1 := by
          rw [take_snoc hx, List.filter_append, List.length_append]
          simp [c5]
        refine ⟨_, jt.set x none, rfl, ?_, fun c o z nf => ?_⟩
        · rw [t1]
          have e : ∀ d : Nat, ((h.done + d : Nat) : Int) + 1 = ((h.done + (d + 1) : Nat) : Int) := fun d => by omega
          show Wk T (upd _ p (.ins T.Works.C f.dx (putF "done" (V.int (((h.done + ((jb.take i).filter fun x => decide (Kqv4.free h x.2.2 ≤ h.minute + n)).length : Nat) : Int) + 1)) _))) p true _ f ws _
          rw [e, ← t2]
          exact W3
        · rw [upd_ne (fun y => nf (by simp [foot, y])), upd_ne (fun y => nf (by simp [foot, y]))]
          exact fr c o z nf
      · have c4 : ¬ ((jx.lift + h.lift + h.clean : Nat) : Int) ≤ ((h.minute + n : Nat) : Int) := fun z => c4 (decide_eq_true z)
        have c5 : decide (Kqv4.free h jx ≤ h.minute + n) = false := decide_eq_false (by unfold Kqv4.free; omega)
        have t1 : (jb.take (i + 1)).filter (fun x => !decide (Kqv4.free h x.2.2 ≤ h.minute + n)) ++ jb.drop (i + 1) = ((jb.take i).filter fun x => !decide (Kqv4.free h x.2.2 ≤ h.minute + n)) ++ (x, ax, jx) :: jb.drop (i + 1) := by
          rw [take_snoc hx, List.filter_append]
          simp [c5]
        have t2 : ((jb.take (i + 1)).filter fun x => decide (Kqv4.free h x.2.2 ≤ h.minute + n)).length = ((jb.take i).filter fun x => decide (Kqv4.free h x.2.2 ≤ h.minute + n)).length := by
          rw [take_snoc hx, List.filter_append, List.length_append]
          simp [c5]
        refine ⟨_, jt, rfl, ?_, fr⟩
        rw [t1, t2]
        exact Wi
    · rintro σ H' ⟨v, jt, rfl, Wi, fr⟩
      rw [List.length_map, List.take_length, List.drop_length, List.append_nil] at Wi
      have sg : Sl ((jb.filter fun x => !decide (Kqv4.free h x.2.2 ≤ h.minute + n)).map pr) (h.jobs.map (Kqv4.left h (h.minute + n))) := by
        have := Bc.Sl.gone W.sj (h.minute + n)
        rw [List.filter_map] at this
        exact this
      have W4 := Wi.reJ sg
      have dc : h.done + (jb.filter fun x => decide (Kqv4.free h x.2.2 ≤ h.minute + n)).length = (Kqv4.gone h (h.minute + n)).done := by
        show _ = h.done + _
        rw [Bc.gone_count W.sj, List.filter_map, List.length_map]
        rfl
      have W5 : Wk T H' p true (Kqv4.gone h (h.minute + n)) f ws (jb.filter fun x => !decide (Kqv4.free h x.2.2 ≤ h.minute + n)) := by
        rw [dc] at W4
        exact W4
      refine rd_minute (T := T) rfl W5.cr ⟨by show 1 ≤ sizeLine; decide, fun q hq => k _ q ?_⟩
      exact out_new (ans := [((h.minute + n : Nat) : Int)]) (s := some (Kqv4.gone h (h.minute + n))) ⟨⟨fun j hj => G.fl j (Bc.gone_js hj), Bc.apart_gone (h.minute + n) G.ap⟩, _, _, W5⟩ (fun c o z nf => fr c o (s1 _ _ (fr1 c o z nf)) nf) hq
end
end Bp
set_option Elab.async false
set_option linter.all false
set_option maxRecDepth 100000
set_option maxHeartbeats 2000000
namespace Bp
open PySem PySem.Spec PyProof.Rows L2 Bl
open Bc (withJ js_withJ gv Sl js)
open Kqv4Neutral (tell)
theorem for_items {d : Addr} {o : Obj} {kvs : List (Key × V)} {g : TG} {tb : TS} {D : Ends} {σ : L2.St} {H : Hp} (Pv : Nat → L2.St → Hp → Prop) (h0 : Pv 0 σ H) (hl : ∀ i σ H, i ≤ kvs.length → Pv i σ H → H d = some (.frz o (.dK kvs)))
    (hs : ∀ i k v σ H T, kvs[i]? = some (k, v) → Pv i σ H → H T = none → g (.ref T) σ (upd H T (.tup [kV k, v])) fun σ2 H2 => tb { D with nx := Pv (i + 1), ct := Pv (i + 1), bk := D.nx } σ2 H2) (hd : ∀ σ H, Pv kvs.length σ H → D.nx σ H) :
    ∃ W : Nat → Nat → L2.St → Hp → Prop, (∃ m, W 0 m σ H) ∧ ∀ i m σ H, W i m σ H →
      ((Iti d o kvs).stop i H ∧ D.nx σ H) ∨ ((Iti d o kvs).go i H ∧ ∃ N : L2.St → Hp → Prop, (∀ σ' H', N σ' H' → ∃ m', m' < m ∧ W (i + 1) m' σ' H') ∧ ∀ x H', (Iti d o kvs).yld i H x H' → g x σ H' fun σ2 H2 => tb { D with nx := N, ct := N, bk := D.nx } σ2 H2) := by
  refine ⟨fun i m σ H => m = kvs.length - i ∧ i ≤ kvs.length ∧ Pv i σ H, ⟨kvs.length, by simp, Nat.zero_le _, h0⟩, ?_⟩
  rintro i m σ H ⟨rfl, hi, p⟩
  have q := hl i σ H hi p
  by_cases hlt : i < kvs.length
  · refine .inr ⟨⟨q, hlt⟩, Pv (i + 1), fun σ' H' p' => ⟨kvs.length - (i + 1), by omega, rfl, hlt, p'⟩, fun x H' y => ?_⟩
    obtain ⟨T, k, v, e, rfl, hT, rfl⟩ := y
    exact hs i k v σ _ T e p hT
  · have e : i = kvs.length := by omega
    subst e
    exact .inl ⟨⟨q, Nat.le_refl _⟩, hd σ H p⟩
theorem unlock {H H' : Hp} {d : Addr} {u : HO} {od : Obj} (hd : H d = some u) (s : Same (upd H d (.frz od u)) H') : Same H (upd H' d u) := fun b o e => by
  by_cases z : b = d
  · rw [z, upd_same, ← hd, ← z, e]
  · rw [upd_ne z]
    exact s _ _ (by rw [upd_ne z]; exact e)
theorem find_at {α : Type} {p : α → Bool} : ∀ {l : List α} {i : Nat} {x : α}, l[i]? = some x → (∀ y ∈ l.take i, p y = false) → p x = true → l.find? p = some x
  | [], _, _, h, _, _ => by simp at h
  | a :: l, 0, x, h, _, px => by
    have : a = x := by simpa using h
    subst this
    rw [List.find?_cons, px]
  | a :: l, i + 1, x, h, n, px => by
    rw [List.find?_cons, n a (by simp)]
    exact find_at (i := i) (by simpa using h) (fun y hy => n y (by simp [hy])) px
section
variable {K : PySem.W.Frag} {mg : Str → Option Value} {T : Tx K mg} {i i' : Nat} {σ : L2.St} {Q : VK} {H : Hp} {p : Addr} {st : Bool} {h : Kqv4.Hall} {f : Ft} {ws : List (Nat × Addr × Kqv4.Blade)} {jb : List (Nat × Addr × Kqv4.Job)} {n : Nat} {a : Addr} {b : Kqv4.Blade} {j : Kqv4.Job}
theorem Wk.allPerm (W : Wk T H p st h f ws jb) : (jb.map pr).Perm (Kqv4.all h) := W.sj.perm
/-- an answer that changes nothing -/
theorem out_lst {H H' : Hp} {q : Addr} {s : Option Kqv4.Hall} {ans : List Int} (S : StAt T H p f s) (sm : Same H H') (hq : H' q = none) : Out T H (upd H' q (.lst (ans.map V.int))) p q f s ans := out_same S (sm.trans (same_new hq)) (sm.free hq) upd_same
/-- an answer given out of a walk over the jobs -/
theorem out_locked {H H' : Hp} {q : Addr} {s : Option Kqv4.Hall} {ans : List Int} {od : Obj} (S : StAt T H p f s) (W : H f.dj = some (.dK (jb.map kv))) (sm : Same (upd H f.dj (.frz od (.dK (jb.map kv)))) H') (hq : H' q = none) :
    (upd H' q (.lst (ans.map V.int))) f.dj = some (.frz od (.dK (jb.map kv))) ∧ Out T H (upd (upd H' q (.lst (ans.map V.int))) f.dj (.dK (jb.map kv))) p q f s ans := by
  have hd := sm _ _ (upd_same (H := H) (a := f.dj) (o := .frz od (.dK (jb.map kv))))
  have nq : f.dj ≠ q := ne_of_none hd hq
  have s1 := unlock W (sm.trans (same_new (o := .lst (ans.map V.int)) hq))
  refine ⟨by rw [upd_ne nq]; exact hd, out_same S s1 ?_ (by rw [upd_ne (Ne.symm nq), upd_same])⟩
  cases e : H q with
  | none => rfl
  | some o =>
    have := sm q o (by rw [upd_ne (Ne.symm nq)]; exact e)
    rw [hq] at this
    cases this
end
section
variable {P : Program} {w : World} {K : PySem.W.Frag} {mg : Str → Option Value} {base : Heap}
theorem ok_tell_over (T : Tx K mg) : FnOk P w K mg base CX0 2 T.tell_over.f T.tell_over.fd ["works", "given"] (SpH T (A0 .over)) := by
  refine T.tell_over.F.ok sc_tell_over (fun vs H Q E h => ?_) (fun cdv A outer s H vs Q E hr h => ?_)
  · obtain ⟨p, g, f, h, args, c, rfl, _⟩ := h
    rfl
  · obtain ⟨p, g, f, h, _, _, rfl, ⟨rfl, rfl⟩, S, hg, k⟩ := h
    obtain ⟨G, ws, jb, W⟩ := id S
    refine ⟨_, (pss_one (ps_ret (pe_lst (pa_cons (pe_dn T.last_out (ok_last_out T) (hr.mono (by decide)) (by rfl) (pa_cons (pv 0) (pa_cons (pe_dn T.all_jobs (ok_all_jobs T) (hr.mono (by decide)) (by rfl) (pa_cons (pv 0) pa_nil)) pa_nil))) pa_nil)))), ?_⟩
    refine ⟨_, rfl, _, rfl, p, true, h, f, ws, jb, rfl, W, fun l H1 hl s1 J => ?_⟩
    refine ⟨p, l, h, _, rfl, W.cr.mono s1, J, W.jl64, fun H2 s2 => ?_⟩
    rw [W.simJ.over]
    exact ⟨by show 1 ≤ sizeLine; decide, fun q hq => k _ q (out_lst (ans := [(Kqv4.over h : Int)]) S (s1.trans s2) hq)⟩
theorem ok_tell_crane (T : Tx K mg) : FnOk P w K mg base CX0 1 T.tell_crane.f T.tell_crane.fd ["works", "given"] (SpH T (A1 .crane)) := by
  refine T.tell_crane.F.ok sc_tell_crane (fun vs H Q E h => ?_) (fun cdv A outer s H vs Q E hr h => ?_)
  · obtain ⟨p, g, f, h, args, c, rfl, _⟩ := h
    rfl
  · obtain ⟨p, g, f, h, _, _, rfl, ⟨n, rfl, rfl⟩, S, hg, k⟩ := h
    obtain ⟨G, ws, jb, W⟩ := id S
    have es : Kqv4.step (some h) (.crane n) = (some h, match (Kqv4.all h).find? fun p => decide (p.2.lift ≤ n) && decide (n < p.2.lift + h.lift) with | none => .num (-33) | some p => .num p.1) := rfl
    rw [es, Bc.crane_one n G.ap W.allPerm] at k
    refine ⟨_, (pss_cons (ps_set (i := 2) sc_tell_crane.nd rfl (Or.inl rfl) (pe_ix ix_list (pv 1) pe_int (fun _ _ => rfl)))
    (pss_cons (ps_lock (ps_for PassesOwn.never rfl (pi_items (pe_fld (pv 0) rfl)) (pg_tup rfl (pgs_cons (pg_name (i := 3) sc_tell_crane.nd rfl (Or.inl rfl)) (pgs_cons (pg_name (i := 4) sc_tell_crane.nd rfl (Or.inl rfl)) pgs_nil)))
    (pss_one (ps_if (pt_chain op_le op_lt (pe_fld (pv 4) rfl) (pv 2) (pe_fld (pv 4) rfl))
      (pss_one (ps_ret (pe_lst (pa_cons (pv 3) pa_nil))))
      pss_nil))))
    (pss_one (ps_ret (pe_lst (pa_cons (pe_gi T.g_NOT_IN_USE (by rfl)) pa_nil)))))), ?_⟩
    refine ⟨_, rfl, g, _, 0, _, rfl, rfl, SqL.of hg, rfl, ?_⟩
    refine ⟨f.dj, _, W.j, True.intro, fun od => ?_⟩
    have hdj : (upd H f.dj (.frz od (.dK (jb.map kv)))) f.dj = some (.frz od (.dK (jb.map kv))) := upd_same
    have jl : ∀ x ∈ jb, JobAt T h.lift h.clean (upd H f.dj (.frz od (.dK (jb.map kv)))) x.2.1 x.2.2 := fun x hx => (W.ja x hx).upd W.j dk_nj dk_nb
    refine ⟨_, rfl, p, _, _, _, _, rfl, (by rw [upd_ne W.pj]; exact W.o), T.Works.cl, T.n_Works_jobs, f_works_jobs .., f.dj, od, _, rfl, hdj, ?_⟩
    refine for_items (fun i σ H' => ∃ v3 v4 : Option V, σ = [some (.ref p), some (.ref g), some (.int n), v3, v4] ∧ Same (upd H f.dj (.frz od (.dK (jb.map kv)))) H' ∧ ∀ x ∈ (jb.map pr).take i, (decide (x.2.lift ≤ n) && decide (n < x.2.lift + h.lift)) = false)
      ⟨none, none, rfl, Same.refl _, by simp⟩ (fun i σ H' _ ⟨_, _, _, sm, _⟩ => sm _ _ hdj) ?_ ?_
    · rintro i y v σ H' X hi ⟨v3, v4, rfl, sm, no⟩ hX
      rw [List.getElem?_map] at hi
      obtain ⟨⟨x, ax, jx⟩, hx, e⟩ := Option.map_eq_some_iff.mp hi
      have e1 : y = Sum.inl (x : Int) := (congrArg Prod.fst e).symm
      have e2 : v = .ref ax := (congrArg Prod.snd e).symm
      subst e1 e2
      have s1 := same_new (o := .tup [kV (Sum.inl (x : Int)), V.ref ax]) hX
      have sm1 := sm.trans s1
      have jx1 : JobAt T h.lift h.clean (upd H' X (.tup [kV (Sum.inl (x : Int)), V.ref ax])) ax jx := (jl _ (List.mem_of_getElem? hx)).mono sm1
      have hx' : (jb.map pr)[i]? = some (x, jx) := by rw [List.getElem?_map, hx]; rfl
      refine ⟨X, _, rfl, SqT.of upd_same, rfl, _, _, rfl, _, _, rfl, rfl, ?_⟩
      generalize upd H' X (.tup [kV (Sum.inl (x : Int)), V.ref ax]) = H1 at s1 sm1 jx1 ⊢
      unfold tIfS tTest tChain
      have skip : (decide (jx.lift ≤ n) && decide (n < jx.lift + h.lift)) = false → ∀ z ∈ (jb.map pr).take (i + 1), (decide (z.2.lift ≤ n) && decide (n < z.2.lift + h.lift)) = false := fun c z hz => by
        rw [take_snoc hx'] at hz
        rcases List.mem_append.mp hz with q | q
        · exact no z q
        · rw [show z = (x, jx) by simpa using q]; exact c
      refine rd_lifted (T := T) rfl jx1 ⟨_, rfl, _, _, rfl, rfl, _, rfl, ite2 (fun c1 => ?_) fun c1 => ?_⟩
      · have c1 := of_decide_eq_true c1
        refine rd_out (T := T) rfl jx1 ⟨_, _, rfl, rfl, _, rfl, ite2 (fun c2 => ?_) fun c2 => ?_⟩
        · have c2 := of_decide_eq_true c2
          rw [find_at hx' no (by simp; omega)] at k
          refine ⟨_, rfl, by show 1 ≤ sizeLine; decide, fun q hq => ?_⟩
          obtain ⟨o1, o2⟩ := out_locked (ans := [(x : Int)]) S W.j sm1 hq
          exact ⟨o1, k _ q o2⟩
        · have c2 : ¬ (n : Int) < ((jx.lift + h.lift : Nat) : Int) := fun z => c2 (decide_eq_true z)
          exact ⟨_, _, rfl, sm1, skip (by simp; omega)⟩
      · have c1 : ¬ (jx.lift : Int) ≤ (n : Int) := fun z => c1 (decide_eq_true z)
        exact ⟨_, rfl, iteF ⟨_, _, rfl, sm1, skip (by simp; omega)⟩⟩
    · rintro σ H' ⟨v3, v4, rfl, sm, no⟩
      rw [List.length_map] at no
      have fn : (jb.map pr).find? (fun p => decide (p.2.lift ≤ n) && decide (n < p.2.lift + h.lift)) = none := by
        rw [List.find?_eq_none]
        intro x hx
        rw [no x (by rw [List.take_of_length_le (by rw [List.length_map]; exact Nat.le_refl _)]; exact hx)]
        exact Bool.false_ne_true
      rw [fn] at k
      refine ⟨sm _ _ hdj, ?_⟩
      have s1 := unlock W.j sm
      exact ⟨by show 1 ≤ sizeLine; decide, fun q hq => k _ q (out_lst (ans := [-33]) S s1 hq)⟩
def sp_part_of_job (T : Tx K mg) : Sp := fun vs H Q _ => ∃ (r : Addr) (t L Cn : Nat) (j : Kqv4.Job), vs = [.ref r, .int t] ∧ JobAt T L Cn H r j ∧
  Q (.int ((if t < Kqv4.ready j then 0 else if t < j.lift then 1 else if t < j.lift + L then 2 else 3 : Nat) : Int)) H
theorem ok_part_of_job (T : Tx K mg) : FnOk P w K mg base CX0 1 T.part_of_job.f T.part_of_job.fd ["job", "minute"] (sp_part_of_job T) := by
  refine T.part_of_job.F.ok sc_part_of_job (fun vs H Q E h => ?_) (fun cdv A outer s H vs Q E hr h => ?_)
  · obtain ⟨r, t, L, Cn, j, rfl, _⟩ := h
    rfl
  · obtain ⟨r, t, L, Cn, j, rfl, hj, k⟩ := h
    refine ⟨_, (pss_cons (ps_if (pt_cmpR op_lt (pv 1) (pe_fld (pv 0) rfl) (nomark _))
    (pss_one (ps_ret (pe_gi T.g_NOT_READY (by rfl))))
    pss_nil)
    (pss_cons (ps_if (pt_cmpR op_lt (pv 1) (pe_fld (pv 0) rfl) (nomark _))
    (pss_one (ps_ret (pe_gi T.g_WAITS_FOR_CRANE (by rfl))))
    pss_nil)
    (pss_cons (ps_if (pt_cmpR op_lt (pv 1) (pe_fld (pv 0) rfl) (nomark _))
    (pss_one (ps_ret (pe_gi T.g_BEING_LIFTED (by rfl))))
    pss_nil)
    (pss_one (ps_ret (pe_gi T.g_BEING_CLEANED (by rfl))))))), ?_⟩
    refine ⟨_, rfl, rd_ready (T := T) rfl hj ⟨_, _, rfl, rfl, _, rfl, ite2 (fun c1 => ?_) fun c1 => ?_⟩⟩
    · have c1 := of_decide_eq_true c1
      rw [if_pos (by unfold Kqv4.ready; omega)] at k
      exact k
    have c1 : ¬ (t : Int) < ((j.from_ + j.blade.minutes : Nat) : Int) := fun z => c1 (decide_eq_true z)
    rw [if_neg (by unfold Kqv4.ready; omega)] at k
    refine ⟨_, rfl, rd_lifted (T := T) rfl hj ⟨_, _, rfl, rfl, _, rfl, ite2 (fun c2 => ?_) fun c2 => ?_⟩⟩
    · have c2 := of_decide_eq_true c2
      rw [if_pos (by omega)] at k
      exact k
    have c2 : ¬ (t : Int) < (j.lift : Int) := fun z => c2 (decide_eq_true z)
    rw [if_neg (by omega)] at k
    refine ⟨_, rfl, rd_out (T := T) rfl hj ⟨_, _, rfl, rfl, _, rfl, ite2 (fun c3 => ?_) fun c3 => ?_⟩⟩
    · have c3 := of_decide_eq_true c3
      rw [if_pos (by omega)] at k
      exact k
    have c3 : ¬ (t : Int) < ((j.lift + L : Nat) : Int) := fun z => c3 (decide_eq_true z)
    rw [if_neg (by omega)] at k
    exact k
theorem ok_tell_inside (T : Tx K mg) : FnOk P w K mg base CX0 2 T.tell_inside.f T.tell_inside.fd ["works", "given"] (SpH T (A2 .inside)) := by
  refine T.tell_inside.F.ok sc_tell_inside (fun vs H Q E h => ?_) (fun cdv A outer s H vs Q E hr h => ?_)
  · obtain ⟨p, g, f, h, args, c, rfl, _⟩ := h
    rfl
  · obtain ⟨p, g, f, h, _, _, rfl, ⟨m, n, rfl, rfl⟩, S, hg, k⟩ := h
    obtain ⟨G, ws, jb, W⟩ := id S
    have es : Kqv4.step (some h) (.inside m n) = (some h, if h.moulds.length ≤ m then .num (-2) else match (Kqv4.all h).find? fun p => p.2.mould == m && decide (p.2.from_ ≤ n) && decide (n < Kqv4.free h p.2) with
      | none => .num (-33)
      | some p => .some_ p.1 [if n < Kqv4.ready p.2 then 0 else if n < p.2.lift then 1 else if n < p.2.lift + h.lift then 2 else 3]) := rfl
    rw [es, Bc.inside_one m n G.ap W.allPerm] at k
    refine ⟨_, (pss_cons (ps_set (i := 2) sc_tell_inside.nd rfl (Or.inl rfl) (pe_ix ix_list (pv 1) pe_int (fun _ _ => rfl)))
    (pss_cons (ps_set (i := 3) sc_tell_inside.nd rfl (Or.inl rfl) (pe_ix ix_list (pv 1) pe_int (fun _ _ => rfl)))
    (pss_cons (ps_if (pt_not (pt_val (pe_dn T.is_mould (ok_is_mould T) (hr.mono (by decide)) (by rfl) (pa_cons (pv 0) (pa_cons (pv 2) pa_nil)))))
    (pss_one (ps_ret (pe_lst (pa_cons (pe_gi T.g_NONE_SUCH (by rfl)) pa_nil))))
    pss_nil)
    (pss_cons (ps_lock (ps_for PassesOwn.never rfl (pi_items (pe_fld (pv 0) rfl)) (pg_tup rfl (pgs_cons (pg_name (i := 4) sc_tell_inside.nd rfl (Or.inl rfl)) (pgs_cons (pg_name (i := 5) sc_tell_inside.nd rfl (Or.inl rfl)) pgs_nil)))
    (pss_one (ps_if (pw_and (pt_cmpR op_eq (pe_fld (pv 5) rfl) (pv 2) (nomark _)) (pw_and1 (pt_chain op_le op_lt (pe_fld (pv 5) rfl) (pv 3) (pe_fld (pv 5) rfl)))).pt
      (pss_one (ps_ret (pe_lst (pa_cons (pv 4) (pa_cons (pe_dn T.part_of_job (ok_part_of_job T) (hr.mono (by decide)) (by rfl) (pa_cons (pv 5) (pa_cons (pv 3) pa_nil))) pa_nil)))))
      pss_nil))))
    (pss_one (ps_ret (pe_lst (pa_cons (pe_gi T.g_NOT_IN_USE (by rfl)) pa_nil)))))))), ?_⟩
    refine ⟨_, rfl, g, _, 0, _, rfl, rfl, SqL.of hg, rfl, ?_⟩
    refine ⟨_, rfl, g, _, 1, _, rfl, rfl, SqL.of hg, rfl, ?_⟩
    refine ⟨_, rfl, _, rfl, p, m, h, rfl, W.cr, _, rfl, ?_⟩
    by_cases c0 : h.moulds.length ≤ m
    · rw [if_pos c0] at k
      rw [decide_eq_false (show ¬ m < h.moulds.length by omega)]
      exact iteT ⟨by show 1 ≤ sizeLine; decide, fun q hq => k _ q (out_ref S (-2) hq)⟩
    rw [if_neg c0] at k
    rw [decide_eq_true (show m < h.moulds.length by omega)]
    refine iteF ?_
    refine ⟨f.dj, _, W.j, True.intro, fun od => ?_⟩
    have hdj : (upd H f.dj (.frz od (.dK (jb.map kv)))) f.dj = some (.frz od (.dK (jb.map kv))) := upd_same
    have jl : ∀ x ∈ jb, JobAt T h.lift h.clean (upd H f.dj (.frz od (.dK (jb.map kv)))) x.2.1 x.2.2 := fun x hx => (W.ja x hx).upd W.j dk_nj dk_nb
    refine ⟨_, rfl, p, _, _, _, _, rfl, (by rw [upd_ne W.pj]; exact W.o), T.Works.cl, T.n_Works_jobs, f_works_jobs .., f.dj, od, _, rfl, hdj, ?_⟩
    refine for_items (fun i σ H' => ∃ v3 v4 : Option V, σ = [some (.ref p), some (.ref g), some (.int m), some (.int n), v3, v4] ∧ Same (upd H f.dj (.frz od (.dK (jb.map kv)))) H' ∧ ∀ x ∈ (jb.map pr).take i, (x.2.mould == m && decide (x.2.from_ ≤ n) && decide (n < Kqv4.free h x.2)) = false)
      ⟨none, none, rfl, Same.refl _, by simp⟩ (fun i σ H' _ ⟨_, _, _, sm, _⟩ => sm _ _ hdj) ?_ ?_
    · rintro i y v σ H' X hi ⟨v3, v4, rfl, sm, no⟩ hX
      rw [List.getElem?_map] at hi
      obtain ⟨⟨x, ax, jx⟩, hx, e⟩ := Option.map_eq_some_iff.mp hi
      have e1 : y = Sum.inl (x : Int) := (congrArg Prod.fst e).symm
      have e2 : v = .ref ax := (congrArg Prod.snd e).symm
      subst e1 e2
      have s1 := same_new (o := .tup [kV (Sum.inl (x : Int)), V.ref ax]) hX
      have sm1 := sm.trans s1
      have jx1 : JobAt T h.lift h.clean (upd H' X (.tup [kV (Sum.inl (x : Int)), V.ref ax])) ax jx := (jl _ (List.mem_of_getElem? hx)).mono sm1
      have hx' : (jb.map pr)[i]? = some (x, jx) := by rw [List.getElem?_map, hx]; rfl
      refine ⟨X, _, rfl, SqT.of upd_same, rfl, _, _, rfl, _, _, rfl, rfl, ?_⟩
      generalize upd H' X (.tup [kV (Sum.inl (x : Int)), V.ref ax]) = H1 at s1 sm1 jx1 ⊢
      have skip : (jx.mould == m && decide (jx.from_ ≤ n) && decide (n < Kqv4.free h jx)) = false → ∀ z ∈ (jb.map pr).take (i + 1), (z.2.mould == m && decide (z.2.from_ ≤ n) && decide (n < Kqv4.free h z.2)) = false := fun c z hz => by
        rw [take_snoc hx'] at hz
        rcases List.mem_append.mp hz with q | q
        · exact no z q
        · rw [show z = (x, jx) by simpa using q]; exact c
      unfold tIfS tAnd tTest tOp
      refine rd_mould (T := T) rfl jx1 ⟨_, rfl, rfl, _, rfl, ite2 (fun c1 => ?_) fun c1 => ?_⟩
      · have c1 : jx.mould = m := by
          have := of_decide_eq_true c1
          injection this with this
          omega
        unfold tChain
        refine rd_begin (T := T) rfl jx1 ⟨_, rfl, _, _, rfl, rfl, _, rfl, ite2 (fun c2 => ?_) fun c2 => ?_⟩
        · have c2 := of_decide_eq_true c2
          refine rd_free (T := T) rfl jx1 ⟨_, _, rfl, rfl, _, rfl, ite2 (fun c3 => ?_) fun c3 => ?_⟩
          · have c3 := of_decide_eq_true c3
            have ok : (jx.mould == m && decide (jx.from_ ≤ n) && decide (n < Kqv4.free h jx)) = true := by unfold Kqv4.free; simp; omega
            rw [find_at hx' no ok] at k
            refine ⟨_, rfl, _, rfl, _, rfl, ax, n, h.lift, h.clean, jx, rfl, jx1, by show 2 ≤ sizeLine; decide, fun q hq => ?_⟩
            obtain ⟨o1, o2⟩ := out_locked (ans := [(x : Int), ((if n < Kqv4.ready jx then 0 else if n < jx.lift then 1 else if n < jx.lift + h.lift then 2 else 3 : Nat) : Int)]) S W.j sm1 hq
            exact ⟨o1, k _ q o2⟩
          · have c3 : ¬ (n : Int) < ((jx.lift + h.lift + h.clean : Nat) : Int) := fun z => c3 (decide_eq_true z)
            exact ⟨_, _, rfl, sm1, skip (by unfold Kqv4.free; simp; omega)⟩
        · have c2 : ¬ (jx.from_ : Int) ≤ (n : Int) := fun z => c2 (decide_eq_true z)
          exact ⟨_, rfl, iteF ⟨_, _, rfl, sm1, skip (by simp; omega)⟩⟩
      · have c1 : ¬ jx.mould = m := fun z => c1 (decide_eq_true (by rw [z]))
        exact iteF ⟨_, _, rfl, sm1, skip (by simp [c1])⟩
    · rintro σ H' ⟨v3, v4, rfl, sm, no⟩
      rw [List.length_map] at no
      have fn : (jb.map pr).find? (fun p => p.2.mould == m && decide (p.2.from_ ≤ n) && decide (n < Kqv4.free h p.2)) = none := by
        rw [List.find?_eq_none]
        intro x hx
        rw [no x (by rw [List.take_of_length_le (by rw [List.length_map]; exact Nat.le_refl _)]; exact hx)]
        exact Bool.false_ne_true
      rw [fn] at k
      refine ⟨sm _ _ hdj, ?_⟩
      have s1 := unlock W.j sm
      exact ⟨by show 1 ≤ sizeLine; decide, fun q hq => k _ q (out_lst (ans := [-33]) S s1 hq)⟩
theorem ok_tell_free_at (T : Tx K mg) : FnOk P w K mg base CX0 2 T.tell_free_at.f T.tell_free_at.fd ["works", "given"] (SpH T (A1 .freeAt)) := by
  refine T.tell_free_at.F.ok sc_tell_free_at (fun vs H Q E h => ?_) (fun cdv A outer s H vs Q E hr h => ?_)
  · obtain ⟨p, g, f, h, args, c, rfl, _⟩ := h
    rfl
  · obtain ⟨p, g, f, h, _, _, rfl, ⟨m, rfl, rfl⟩, S, hg, k⟩ := h
    obtain ⟨G, ws, jb, W⟩ := id S
    have es : Kqv4.step (some h) (.freeAt m) = (some h, if h.moulds.length ≤ m then .num (-2) else .num (Kqv4.freeAt h m)) := rfl
    rw [es] at k
    refine ⟨_, (pss_cons (ps_set (i := 2) sc_tell_free_at.nd rfl (Or.inl rfl) (pe_ix ix_list (pv 1) pe_int (fun _ _ => rfl)))
    (pss_cons (ps_if (pt_not (pt_val (pe_dn T.is_mould (ok_is_mould T) (hr.mono (by decide)) (by rfl) (pa_cons (pv 0) (pa_cons (pv 2) pa_nil)))))
    (pss_one (ps_ret (pe_lst (pa_cons (pe_gi T.g_NONE_SUCH (by rfl)) pa_nil))))
    pss_nil)
    (pss_one (ps_ret (pe_lst (pa_cons (pe_dn T.free_at_last (ok_free_at_last T) (hr.mono (by decide)) (by rfl) (pa_cons (pv 0) (pa_cons (pe_dn T.all_jobs (ok_all_jobs T) (hr.mono (by decide)) (by rfl) (pa_cons (pv 0) pa_nil)) (pa_cons (pv 2) pa_nil)))) pa_nil)))))), ?_⟩
    refine ⟨_, rfl, g, _, 0, _, rfl, rfl, SqL.of hg, rfl, ?_⟩
    refine ⟨_, rfl, _, rfl, p, m, h, rfl, W.cr, _, rfl, ?_⟩
    by_cases c0 : h.moulds.length ≤ m
    · rw [if_pos c0] at k
      rw [decide_eq_false (show ¬ m < h.moulds.length by omega)]
      exact iteT ⟨by show 1 ≤ sizeLine; decide, fun q hq => k _ q (out_ref S (-2) hq)⟩
    rw [if_neg c0] at k
    rw [decide_eq_true (show m < h.moulds.length by omega)]
    refine iteF ?_
    refine ⟨_, rfl, _, rfl, p, true, h, f, ws, jb, rfl, W, fun l H1 hl s1 J => ?_⟩
    refine ⟨_, rfl, p, l, m, h, _, rfl, W.cr.mono s1, J, W.jl64, fun H2 s2 => ?_⟩
    rw [W.simJ.freeAt]
    exact ⟨by show 1 ≤ sizeLine; decide, fun q hq => k _ q (out_lst (ans := [(Kqv4.freeAt h m : Int)]) S (s1.trans s2) hq)⟩
theorem ok_tell_lifts (T : Tx K mg) : FnOk P w K mg base CX0 2 T.tell_lifts.f T.tell_lifts.fd ["works", "given"] (SpH T (A1 .lifts)) := by
  refine T.tell_lifts.F.ok sc_tell_lifts (fun vs H Q E h => ?_) (fun cdv A outer s H vs Q E hr h => ?_)
  · obtain ⟨p, g, f, h, args, c, rfl, _⟩ := h
    rfl
  · obtain ⟨p, g, f, h, _, _, rfl, ⟨t, rfl, rfl⟩, S, hg, k⟩ := h
    obtain ⟨G, ws, jb, W⟩ := id S
    have es : Kqv4.step (some h) (.lifts t) = (some h, if t < h.minute ∨ 100000 < t then .num (-22) else .num (Kqv4.lifts h t)) := rfl
    rw [es] at k
    have bad : (t < h.minute ∨ 100000 < t) → 1 ≤ sizeLine ∧ ∀ q, H q = none → Q (.ref q) (upd H q (.lst [V.int (-22)])) := fun z => by
      rw [if_pos z] at k
      exact ⟨by decide, fun q hq => k _ q (out_ref S (-22) hq)⟩
    refine ⟨_, (pss_cons (ps_set (i := 2) sc_tell_lifts.nd rfl (Or.inl rfl) (pe_ix ix_list (pv 1) pe_int (fun _ _ => rfl)))
    (pss_cons (ps_if (pt_not (pt_chain op_le op_le (pe_fld (pv 0) rfl) (pv 2) (pe_gi T.g_LAST_MINUTE (by rfl))))
    (pss_one (ps_ret (pe_lst (pa_cons (pe_gi T.g_OUT_OF_RANGE (by rfl)) pa_nil))))
    pss_nil)
    (pss_one (ps_ret (pe_lst (pa_cons (pe_dn T.first_lift (ok_first_lift T) (hr.mono (by decide)) (by rfl) (pa_cons (pv 0) (pa_cons (pe_dn T.all_jobs (ok_all_jobs T) (hr.mono (by decide)) (by rfl) (pa_cons (pv 0) pa_nil)) (pa_cons (pv 2) pa_nil)))) pa_nil)))))), ?_⟩
    refine ⟨_, rfl, g, _, 0, _, rfl, rfl, SqL.of hg, rfl, ?_⟩
    show tIfS (tNot (tTest (tChain _ _ (tFld K (tVar 0) "minute") _ _))) _ _ _ _ _
    unfold tIfS tNot tTest tChain
    refine rd_minute (T := T) rfl W.cr ⟨_, rfl, _, _, rfl, rfl, _, rfl, ite2 (fun c1 => ?_) fun c1 => ?_⟩
    case refine_2 =>
      have c1 : ¬ (h.minute : Int) ≤ (t : Int) := fun z => c1 (decide_eq_true z)
      exact ⟨_, rfl, iteT (bad (by omega))⟩
    have c1 := of_decide_eq_true c1
    refine ⟨_, _, rfl, rfl, _, rfl, ?_⟩
    by_cases c2 : (t : Int) ≤ 100000
    case neg =>
      rw [decide_eq_false c2]
      exact iteT (bad (by omega))
    rw [decide_eq_true c2]
    rw [if_neg (by omega)] at k
    refine iteF ?_
    refine ⟨_, rfl, _, rfl, p, true, h, f, ws, jb, rfl, W, fun l H1 hl s1 J => ?_⟩
    refine ⟨_, rfl, p, l, t, h, _, rfl, W.cr.mono s1, J, W.jl64, fun H2 s2 => ?_⟩
    rw [W.simJ.lifts]
    exact ⟨by show 1 ≤ sizeLine; decide, fun q hq => k _ q (out_lst (ans := [(Kqv4.lifts h t : Int)]) S (s1.trans s2) hq)⟩
end
end Bp
set_option Elab.async false
set_option linter.all false
set_option maxRecDepth 100000
set_option maxHeartbeats 2000000
namespace Bp
open PySem PySem.Spec PyProof.Rows L2 Bl
open Bc (withJ js_withJ gv Sl js)
open Kqv4Neutral (tell)
/-- the minutes of one job within others -/
def cu (t e a b : Int) : Int := if (0 : Int) > (if e < b then e else b) - (if t > a then t else a) then 0 else (if e < b then e else b) - (if t > a then t else a)
theorem cu_eq (t e a b : Int) : cu t e a b = max (min b e - max a t) 0 := by
  unfold cu
  split <;> split <;> split <;> omega
section
variable {P : Program} {w : World} {K : PySem.W.Frag} {mg : Str → Option Value} {base : Heap}
def sp_count_used (T : Tx K mg) : Sp := fun vs H Q _ => ∃ (q : Addr) (m : Nat) (t e : Int) (h : Kqv4.Hall) (jl : List Kqv4.Job), vs = [.ref q, .int m, .int t, .int e] ∧ JobsAt T h H q jl ∧ jl.length < 64 ∧
  ∀ H', Same H H' → Q (.int ((jl.filter fun j => j.mould == m).map fun j => cu t e (j.from_ : Int) ((j.lift + h.lift + h.clean : Nat) : Int)).sum) H'
theorem ok_count_used (T : Tx K mg) : FnOk P w K mg base CX0 1 T.count_used.f T.count_used.fd ["jobs", "mould", "begin", "end"] (sp_count_used T) := by
  refine T.count_used.F.ok sc_count_used (fun vs H Q E h => ?_) (fun cdv A outer s H vs Q E hr h => ?_)
  · obtain ⟨q, m, t, e, h, jl, rfl, _⟩ := h
    rfl
  · obtain ⟨q, m, t, e, h, jl, rfl, ⟨as, hq, ja⟩, h64, k⟩ := h
    refine ⟨_, (pss_one (ps_ret (pe_callB (cr_sum rfl) (by rfl) T.b_sum boot_sum (pa_cons (pe_lc (own := [("job", 4)]) (tt := (tTest (tOp rEq (tFld K (tVar 4) "mould") (tVar 1)))) (te := (tMax2 (tOp (rI0 fun i j => .int (i - j)) (tMin2 (tFld K (tVar 4) "free") (tVar 3)) (tMax2 (tFld K (tVar 4) "begin") (tVar 2))) (tC (.int 0)))) rfl sc_count_used.nd (pi_list (pv 0)) (blkOk_by (by rfl)) (fun _ _ _ _ _ => (pg_name (i := 4) sc_count_used.nd rfl (Or.inl rfl))) (fun _ _ _ _ _ => (pts_one (pt_cmpR op_eq (pe_fld (pv 4) rfl) (pv 1) (nomark _)))) (fun _ _ _ _ _ => (pe_callB (call_max2 rfl) (by rfl) T.b_max boot_max (pa_cons (pe_op op_sub (pe_callB (call_min2 rfl) (by rfl) T.b_min boot_min (pa_cons (pe_fld (pv 4) rfl) (pa_cons (pv 3) pa_nil))) (pe_callB (call_max2 rfl) (by rfl) T.b_max boot_max (pa_cons (pe_fld (pv 4) rfl) (pa_cons (pv 2) pa_nil)))) (pa_cons pe_int pa_nil))))) pa_nil)))), ?_⟩
    refine ⟨_, rfl, q, rfl, ⟨_, SqL.of hq⟩, ?_⟩
    have hlen : as.length = jl.length := Paired.length ja
    refine lc_paired (i := 4) (paired_ref ja) hq (by show 4 < 5; decide) (by rw [List.length_map, hlen]; exact small64 h64) (fun (j : Kqv4.Job) => j.mould == m) (fun (j : Kqv4.Job) => V.int (cu t e (j.from_ : Int) ((j.lift + h.lift + h.clean : Nat) : Int))) ?_ ?_ ?_
    · rintro x y ⟨a, rfl, ja'⟩ H' Q' sm z
      unfold tTest tOp
      refine rd_mould (T := T) rfl (ja'.mono sm) ⟨_, rfl, rfl, _, rfl, ?_⟩
      have e : decide (V.int (y.mould : Int) = V.int (m : Int)) = (y.mould == m) := by
        rw [Bool.eq_iff_iff, decide_eq_true_iff, beq_iff_eq]
        constructor
        · intro z; injection z with z; omega
        · intro z; rw [z]
      rw [e]
      exact z
    · rintro x y ⟨a, rfl, ja'⟩ _ H' Q' sm z
      unfold tMax2 tMin2 tOp tCB tCons tNil tC
      refine rd_free (T := T) rfl (ja'.mono sm) ⟨_, rfl, _, _, rfl, ?_⟩
      exact rd_begin (T := T) rfl (ja'.mono sm) ⟨_, rfl, _, _, rfl, _, _, rfl, rfl, _, _, rfl, z⟩
    intro D hD
    have hk := k _ (same_new (o := .lst ((jl.filter fun j => j.mould == m).map fun (j : Kqv4.Job) => V.int (cu t e (j.from_ : Int) ((j.lift + h.lift + h.clean : Nat) : Int)))) hD)
    have em : ((jl.filter fun j => j.mould == m).map fun (j : Kqv4.Job) => V.int (cu t e (j.from_ : Int) ((j.lift + h.lift + h.clean : Nat) : Int))) = ((jl.filter fun j => j.mould == m).map fun (j : Kqv4.Job) => cu t e (j.from_ : Int) ((j.lift + h.lift + h.clean : Nat) : Int)).map V.int := by
      rw [List.map_map]; rfl
    generalize ((jl.filter fun j => j.mould == m).map fun (j : Kqv4.Job) => cu t e (j.from_ : Int) ((j.lift + h.lift + h.clean : Nat) : Int)) = ns at em hk
    rw [em] at hk ⊢
    exact ⟨D, ns, rfl, SqL.of upd_same, hk⟩
theorem ok_tell_idle (T : Tx K mg) : FnOk P w K mg base CX0 2 T.tell_idle.f T.tell_idle.fd ["works", "given"] (SpH T (A1 .idle)) := by
  refine T.tell_idle.F.ok sc_tell_idle (fun vs H Q E h => ?_) (fun cdv A outer s H vs Q E hr h => ?_)
  · obtain ⟨p, g, f, h, args, c, rfl, _⟩ := h
    rfl
  · obtain ⟨p, g, f, h, _, _, rfl, ⟨m, rfl, rfl⟩, S, hg, k⟩ := h
    obtain ⟨G, ws, jb, W⟩ := id S
    have es : Kqv4.step (some h) (.idle m) = (some h, if h.moulds.length ≤ m then .num (-2) else .num (Kqv4.idle h m)) := rfl
    rw [es] at k
    refine ⟨_, (pss_cons (ps_set (i := 2) sc_tell_idle.nd rfl (Or.inl rfl) (pe_ix ix_list (pv 1) pe_int (fun _ _ => rfl)))
    (pss_cons (ps_if (pt_not (pt_val (pe_dn T.is_mould (ok_is_mould T) (hr.mono (by decide)) (by rfl) (pa_cons (pv 0) (pa_cons (pv 2) pa_nil)))))
    (pss_one (ps_ret (pe_lst (pa_cons (pe_gi T.g_NONE_SUCH (by rfl)) pa_nil))))
    pss_nil)
    (pss_cons (ps_set (i := 3) sc_tell_idle.nd rfl (Or.inl rfl) (pe_dn T.all_jobs (ok_all_jobs T) (hr.mono (by decide)) (by rfl) (pa_cons (pv 0) pa_nil)))
    (pss_cons (ps_set (i := 4) sc_tell_idle.nd rfl (Or.inl rfl) (pe_dn T.last_out (ok_last_out T) (hr.mono (by decide)) (by rfl) (pa_cons (pv 0) (pa_cons (pv 3) pa_nil))))
    (pss_one (ps_ret (pe_lst (pa_cons (pe_op op_sub (pe_op op_sub (pv 4) (pe_fld (pv 0) rfl)) (pe_dn T.count_used (ok_count_used T) (hr.mono (by decide)) (by rfl) (pa_cons (pv 3) (pa_cons (pv 2) (pa_cons (pe_fld (pv 0) rfl) (pa_cons (pv 4) pa_nil)))))) pa_nil)))))))), ?_⟩
    refine ⟨_, rfl, g, _, 0, _, rfl, rfl, SqL.of hg, rfl, ?_⟩
    refine ⟨_, rfl, _, rfl, p, m, h, rfl, W.cr, _, rfl, ?_⟩
    by_cases c0 : h.moulds.length ≤ m
    · rw [if_pos c0] at k
      rw [decide_eq_false (show ¬ m < h.moulds.length by omega)]
      exact iteT ⟨by show 1 ≤ sizeLine; decide, fun q hq => k _ q (out_ref S (-2) hq)⟩
    rw [if_neg c0] at k
    rw [decide_eq_true (show m < h.moulds.length by omega)]
    refine iteF ?_
    refine ⟨_, rfl, p, true, h, f, ws, jb, rfl, W, fun l H1 hl s1 J => ?_⟩
    refine ⟨_, rfl, _, rfl, p, l, h, _, rfl, W.cr.mono s1, J, W.jl64, fun H2 s2 => ?_⟩
    rw [W.simJ.over]
    have s02 := s1.trans s2
    refine ⟨_, rfl, rd_minute (T := T) rfl (W.cr.mono s02) ⟨_, _, rfl, rfl, _, rfl, _, rfl, rd_minute (T := T) rfl (W.cr.mono s02) ⟨_, rfl, ?_⟩⟩⟩
    refine ⟨l, m, _, _, h, _, rfl, J.mono s2, W.jl64, fun H3 s3 => ?_⟩
    have s03 := s02.trans s3
    refine ⟨_, _, rfl, rfl, by show 1 ≤ sizeLine; decide, fun q hq => k _ q ?_⟩
    have ie := Bc.idle_eq m W.jsPerm G.ap G.fl
    have ce : (((jb.map fun x => x.2.2).filter fun j => j.mould == m).map fun j => cu (h.minute : Int) (Kqv4.over h : Int) (j.from_ : Int) ((j.lift + h.lift + h.clean : Nat) : Int)) = ((jb.map fun x => x.2.2).filter fun j => j.mould == m).map fun j => max (min ((j.lift + h.lift + h.clean : Nat) : Int) (Kqv4.over h : Int) - max (j.from_ : Int) (h.minute : Int)) 0 :=
      List.map_congr_left fun j _ => cu_eq _ _ _ _
    show Out T H (upd H3 q (.lst [V.int ((Kqv4.over h : Int) - (h.minute : Int) - (((jb.map fun x => x.2.2).filter fun j => j.mould == m).map fun j => cu (h.minute : Int) (Kqv4.over h : Int) (j.from_ : Int) ((j.lift + h.lift + h.clean : Nat) : Int)).sum)])) p q f (some h) [(Kqv4.idle h m : Int)]
    rw [ce, ← ie]
    exact out_lst (ans := [(Kqv4.idle h m : Int)]) S s03 hq
theorem ok_tell_job (T : Tx K mg) : FnOk P w K mg base CX0 1 T.tell_job.f T.tell_job.fd ["works", "given"] (SpH T (A1 .job)) := by
  refine T.tell_job.F.ok sc_tell_job (fun vs H Q E h => ?_) (fun cdv A outer s H vs Q E hr h => ?_)
  · obtain ⟨p, g, f, h, args, c, rfl, _⟩ := h
    rfl
  · obtain ⟨p, g, f, h, _, _, rfl, ⟨n, rfl, rfl⟩, S, hg, k⟩ := h
    have hu := hu_of hr
    obtain ⟨G, ws, jb, W⟩ := id S
    have es : Kqv4.step (some h) (.job n) = (some h, match gv h.jobs n with | none => .num (-2) | some j => .some_ j.mould [j.blade.kind, j.from_, Kqv4.ready j, j.lift]) := rfl
    rw [es] at k
    refine ⟨_, (pss_cons (ps_set (i := 2) sc_tell_job.nd rfl (Or.inl rfl) (pe_ix ix_list (pv 1) pe_int (fun _ _ => rfl)))
    (pss_cons (ps_if (pt_cmp (pc_dnotin hu (pv 2) (pe_fld (pv 0) rfl)))
    (pss_one (ps_ret (pe_lst (pa_cons (pe_gi T.g_NONE_SUCH (by rfl)) pa_nil))))
    pss_nil)
    (pss_cons (ps_set (i := 3) sc_tell_job.nd rfl (Or.inl rfl) (pe_dget hu (pe_fld (pv 0) rfl) (pv 2) (fun _ _ => rfl)))
    (pss_one (ps_ret (pe_lst (pa_cons (pe_fld (pv 3) rfl) (pa_cons (pe_fld (pe_fld (pv 3) rfl) rfl) (pa_cons (pe_fld (pv 3) rfl) (pa_cons (pe_fld (pv 3) rfl) (pa_cons (pe_fld (pv 3) rfl) pa_nil))))))))))), ?_⟩
    refine ⟨_, rfl, g, _, 0, _, rfl, rfl, SqL.of hg, rfl, ?_⟩
    refine ⟨_, rfl, rd_jobs (T := T) rfl W ⟨f.dj, _, rfl, DGet.k (k := Sum.inl (n : Int)) W.j, _, rfl, ?_⟩⟩
    rcases dict_look W.sj n with ⟨e, v⟩ | ⟨a, j, m, e, v⟩
    · rw [v]
      simp only [e] at k
      exact iteT ⟨by show 1 ≤ sizeLine; decide, fun q hq => k _ q (out_ref S (-2) hq)⟩
    rw [v]
    simp only [e] at k
    refine iteF ?_
    refine rd_jget (T := T) rfl rfl W m ?_
    have jr := W.ja _ m
    show tRet (tLst (tCons (tFld K (tVar 3) "mould") _)) _ _ _
    unfold tRet tLst tCons
    refine rd_mould (T := T) rfl jr ?_
    show tFld K (tVar 3) "blade" _ _ _
    refine rd_blade (T := T) rfl jr fun ba ⟨dx, eb⟩ => ⟨ba, _, dx, _, _, rfl, eb, T.Blade.cl, T.n_Blade_kind, f_blade_kind .., ?_⟩
    refine rd_begin (T := T) rfl jr (rd_ready (T := T) rfl jr (rd_lifted (T := T) rfl jr ⟨by show 5 ≤ sizeLine; decide, fun q hq => k _ q ?_⟩))
    exact out_lst (ans := [(j.mould : Int), (j.blade.kind : Int), (j.from_ : Int), ((j.from_ + j.blade.minutes : Nat) : Int), (j.lift : Int)]) S (Same.refl _) hq
theorem ok_tell_waiting (T : Tx K mg) : FnOk P w K mg base CX0 1 T.tell_waiting.f T.tell_waiting.fd ["works", "given"] (SpH T (A0 .waiting)) := by
  refine T.tell_waiting.F.ok sc_tell_waiting (fun vs H Q E h => ?_) (fun cdv A outer s H vs Q E hr h => ?_)
  · obtain ⟨p, g, f, h, args, c, rfl, _⟩ := h
    rfl
  · obtain ⟨p, g, f, h, _, _, rfl, ⟨rfl, rfl⟩, S, hg, k⟩ := h
    obtain ⟨G, ws, jb, W⟩ := id S
    refine ⟨_, (pss_one (ps_ret (pe_op op_cat (pe_lst (pa_cons (pe_callB call_lenD (by rfl) T.b_len PySem.boot_len (pa_cons (pe_fld (pv 0) rfl) pa_nil)) pa_nil)) (pe_callB (call_sortedD rfl) (by rfl) T.b_sorted boot_sorted (pa_cons (pe_fld (pv 0) rfl) pa_nil))))), ?_⟩
    show tFld K (tVar 0) "waiting" _ _ _
    refine rd_waiting (T := T) rfl W ⟨f.dw, _, rfl, W.w, by show 1 ≤ sizeLine; decide, fun l1 hl1 => ?_⟩
    have s1 := same_new (o := .lst [V.int ((ws.map kv).length : Int)]) hl1
    have W1 := W.mono s1
    show tFld K (tVar 0) "waiting" _ _ _
    refine rd_waiting (T := T) rfl W1 ⟨f.dw, _, ws.map fun x => (x.1 : Int), rfl, .inl W1.w, ?_, ?_, fun ns lf pm srt hlf => ?_⟩
    · rw [List.map_map, List.map_map]; rfl
    · rw [List.length_map]; have := W.l5; omega
    have s2 := same_new (o := .lst (ns.map V.int)) hlf
    have e := Bc.sorted_waiting W.wperm (by rw [List.map_map]; exact pm) srt
    refine ⟨l1, lf, _, _, rfl, rfl, s2 _ _ upd_same, upd_same, ?_, fun q hq => k _ q ?_⟩
    · show 1 + (ns.map V.int).length ≤ _
      rw [List.length_map, pm.length_eq, List.length_map]
      have := W.l5
      rw [sizeLine_eq]
      omega
    · have ea : tell (Kqv4.step (some h) .waiting).2 = ((Kqv4.waiting h).length : Int) :: (Kqv4.waiting h).map fun (x : Nat) => (x : Int) := rfl
      rw [ea]
      have el : [V.int ((ws.map kv).length : Int)] ++ ns.map V.int = (((Kqv4.waiting h).length : Int) :: (Kqv4.waiting h).map fun (x : Nat) => (x : Int)).map V.int := by
        rw [List.length_map, e, ← W.wlen]
        rfl
      rw [el]
      exact out_lst (s := some h) S (s1.trans s2) hq
theorem ok_tell_state (T : Tx K mg) : FnOk P w K mg base CX0 1 T.tell_state.f T.tell_state.fd ["works", "given"] (SpH T (A0 .state)) := by
  refine T.tell_state.F.ok sc_tell_state (fun vs H Q E h => ?_) (fun cdv A outer s H vs Q E hr h => ?_)
  · obtain ⟨p, g, f, h, args, c, rfl, _⟩ := h
    rfl
  · obtain ⟨p, g, f, h, _, _, rfl, ⟨rfl, rfl⟩, S, hg, k⟩ := h
    obtain ⟨G, ws, jb, W⟩ := id S
    refine ⟨_, (pss_one (ps_ret (pe_lst (pa_cons (pe_fld (pv 0) rfl) (pa_cons (pe_callB call_len_seq (by rfl) T.b_len PySem.boot_len (pa_cons (pe_fld (pv 0) rfl) pa_nil)) (pa_cons (pe_callB call_lenD (by rfl) T.b_len PySem.boot_len (pa_cons (pe_fld (pv 0) rfl) pa_nil)) (pa_cons (pe_callB call_lenD (by rfl) T.b_len PySem.boot_len (pa_cons (pe_fld (pv 0) rfl) pa_nil)) (pa_cons (pe_fld (pv 0) rfl) pa_nil)))))))), ?_⟩
    unfold tRet tLst tCB tCons
    refine rd_minute (T := T) rfl W.cr ?_
    refine rdk_moulds (T := T) rfl W ⟨f.lm, _, rfl, .inl (SqL.of W.m), ?_⟩
    refine rd_waiting (T := T) rfl W ⟨f.dw, _, rfl, W.w, ?_⟩
    refine rd_jobs (T := T) rfl W ⟨f.dj, _, rfl, W.j, ?_⟩
    refine rd_done (T := T) rfl W.cr ⟨by show 5 ≤ sizeLine; decide, fun q hq => k _ q ?_⟩
    have ea : tell (Kqv4.step (some h) .state).2 = [(h.minute : Int), (h.moulds.length : Int), ((Kqv4.waiting h).length : Int), ((Kqv4.all h).length : Int), (h.done : Int)] := rfl
    rw [ea, W.wlen, W.jlen]
    show Out T H (upd H q (.lst [V.int (h.minute : Int), V.int ((h.moulds.map fun (k : Nat) => V.int k).length : Int), V.int ((ws.map kv).length : Int), V.int ((jb.map kv).length : Int), V.int (h.done : Int)])) p q f (some h) _
    rw [List.length_map, List.length_map, List.length_map]
    exact out_lst (ans := [(h.minute : Int), (h.moulds.length : Int), (ws.length : Int), (jb.length : Int), (h.done : Int)]) S (Same.refl _) hq
end
end Bp
set_option Elab.async false
set_option linter.all false
set_option maxRecDepth 100000
set_option maxHeartbeats 2000000
namespace Bp
open PySem PySem.Spec PyProof.Rows L2 Bl
open Bc (withJ js_withJ gv Sl js Ask)
open Kqv4Neutral (tell)
theorem drop_get {ns : List Int} {i : Nat} {x : Int} {l : List Int} (h : ns.drop i = x :: l) : atI (ns.map V.int) (i : Int) = some (V.int x) := by
  refine atI_nat ?_
  have : (ns.drop i)[0]? = some x := by rw [h]; rfl
  rw [List.getElem?_drop] at this
  rw [List.getElem?_map, show ns[i]? = some x from this]
  rfl
theorem pe_gt {X : Cx} {x : Str} {a : Addr} {pos : Pos} (hg : Gl X x) (hm : X.mg x = some (.ref a)) (hd : (x == ("__debug__" : Str)) = false := by decide) : PE X (.Name x pos) (tC (.ref a)) := pe_glob hg hm rfl hd
theorem skip_if {c : Bool} {A B : Prop} (h : c = true → B → A) (b : B) : if c = true then A else B := by
  split
  · rename_i e; exact h e b
  · exact b
section
variable {P : Program} {w : World} {K : PySem.W.Frag} {mg : Str → Option Value} {base : Heap}
def sp_count_given (K : PySem.W.Frag) : Sp := fun vs H Q _ => ∃ (a : Addr) (ns : List Int) (i num : Nat) (args t : List Int) (c : Kqv4.Call), vs = [.ref a, .int i] ∧ SqL K H a (ns.map V.int) ∧ ns.drop i = (num : Int) :: (args ++ t) ∧ Ask num args c ∧ Q (.int (args.length : Nat)) H
theorem ok_count_given (T : Tx K mg) : FnOk P w K mg base CX0 1 T.count_given.f T.count_given.fd ["calls", "place"] (sp_count_given K) := by
  refine T.count_given.F.ok sc_count_given (fun vs H Q E h => ?_) (fun cdv A outer s H vs Q E hr h => ?_)
  · obtain ⟨a, ns, i, num, args, t, c, rfl, _⟩ := h
    rfl
  · obtain ⟨a, ns, i, num, args, t, c, rfl, hs, hd, ask, k⟩ := h
    refine ⟨_, (pss_cons (ps_set (i := 2) sc_count_given.nd rfl (Or.inl rfl) (pe_ix ix_list (pv 0) (pv 1) (fun _ _ => rfl)))
    (pss_cons (ps_if (pt_cmpR op_eq (pv 2) (pe_gi T.g_ORDER (by rfl)) (nomark _))
    (pss_one (ps_ret (pe_op op_add pe_int (pe_ix ix_list (pv 0) (pe_op op_add (pv 1) pe_int) (fun _ _ => rfl)))))
    pss_nil)
    (pss_one (ps_ret (pe_ix ix_tup (pe_gt (by rfl) T.t_GIVEN_COUNTS.m) (pv 2) (fun _ _ => rfl)))))), ?_⟩
    refine ⟨_, rfl, _, rfl, a, _, _, _, rfl, rfl, hs, drop_get hd, ?_⟩
    refine ⟨_, rfl, rfl, _, rfl, ?_⟩
    by_cases h9 : num = 9
    · subst h9
      cases ask with
      | order r hr =>
        have hd1 : ns.drop (i + 1) = (r.length : Int) :: ((r.map fun (k : Nat) => (k : Int)) ++ t) := by
          rw [← List.drop_drop, hd]
          rfl
        rw [show decide (V.int ((9 : Nat) : Int) = V.int 9) = true from rfl]
        refine iteT ⟨_, rfl, _, rfl, _, _, rfl, rfl, a, _, _, V.int (r.length : Int), rfl, rfl, hs, drop_get hd1, _, _, rfl, rfl, ?_⟩
        · have e : (1 : Int) + (r.length : Int) = ((((r.length : Int) :: r.map fun (k : Nat) => (k : Int)).length : Nat) : Int) := by
            rw [List.length_cons, List.length_map]; omega
          show Q (.int ((1 : Int) + (r.length : Int))) H
          rw [e]
          exact k
    · rw [decide_eq_false (fun z => h9 (by injection z with z; omega))]
      have hc : atI ([.int 2, .int 1, .int 2, .int 1, .int 1, .int 1, .int 3, .int 1, .int 1, .int 0, .int 0, .int 0, .int 0, .int 1, .int 2, .int 1, .int 1, .int 1, .int 1, .int 0, .int 0] : List V) (num : Int) = some (.int (args.length : Nat)) := by
        refine atI_nat ?_
        cases ask <;> first | rfl | exact absurd rfl h9
      exact iteF ⟨_, rfl, _, _, _, _, rfl, rfl, T.t_GIVEN_COUNTS.s _, hc, k⟩
def sp_reply_to (T : Tx K mg) : Sp := fun vs H Q _ => ∃ (p g : Addr) (num : Nat) (f : Ft) (s : Option Kqv4.Hall) (args : List Int) (c : Kqv4.Call), vs = [.ref p, .int num, .ref g] ∧ Ask num args c ∧ StAt T H p f s ∧ H g = some (.lst (args.map V.int)) ∧
  ∀ H' q, Out T H H' p q f (Kqv4.step s c).1 (tell (Kqv4.step s c).2) → Q (.ref q) H'
theorem disp (T : Tx K mg) {H : Hp} {Q : VK} {p g : Addr} {num : Nat} {f : Ft} {s : Option Kqv4.Hall} {args : List Int} {c : Kqv4.Call} (ask : Ask num args c) (S : StAt T H p f s) (hg : H g = some (.lst (args.map V.int)))
    (k : ∀ H' q, Out T H H' p q f (Kqv4.step s c).1 (tell (Kqv4.step s c).2) → Q (.ref q) H') (ns : num = 0 ∨ ∃ h, s = some h) :
    ∃ (fa : Addr) (fd : FuncData) (sp : Sp) (kk : Nat), (∀ (P : Program) (w : World) (base : Heap), FnOk P w K mg base CX0 kk fa fd ["works", "given"] sp) ∧ kk ≤ 13 ∧ PySem.W.keepIn K (.ref fa) = true ∧ Binds K fd ["works", "given"] [] ∧
      ((num < 12 ∧ ([.ref T.start_anew.f, .ref T.add_mould.f, .ref T.add_blade.f, .ref T.drop_blade.f, .ref T.tell_best.f, .ref T.put_blade.f, .ref T.put_blade_at.f, .ref T.cancel_job.f, .ref T.pass_by.f, .ref T.tell_order.f, .ref T.tell_plan.f, .ref T.follow_plan.f] : List V)[num]? = some (.ref fa)) ∨
        (12 ≤ num ∧ ([.ref T.tell_over.f, .ref T.tell_crane.f, .ref T.tell_inside.f, .ref T.tell_free_at.f, .ref T.tell_lifts.f, .ref T.tell_idle.f, .ref T.tell_job.f, .ref T.tell_waiting.f, .ref T.tell_state.f] : List V)[num - 12]? = some (.ref fa))) ∧ sp [.ref p, .ref g] H Q E0 := by
  cases ask with
  | start a b => exact ⟨T.start_anew.f, T.start_anew.fd, _, _, fun _ _ _ => ok_start_anew T, by decide, T.start_anew.F.kp, T.start_anew.b, .inl ⟨by decide, rfl⟩, ⟨p, g, f, s, a, b, rfl, S, hg, k⟩⟩
  | mould a =>
    obtain z | ⟨h, rfl⟩ := ns
    · cases z
    · exact ⟨T.add_mould.f, T.add_mould.fd, _, _, fun _ _ _ => ok_add_mould T, by decide, T.add_mould.F.kp, T.add_mould.b, .inl ⟨by decide, rfl⟩, ⟨p, g, f, h, _, _, rfl, ⟨a, rfl, rfl⟩, S, hg, k⟩⟩
  | blade a b =>
    obtain z | ⟨h, rfl⟩ := ns
    · cases z
    · exact ⟨T.add_blade.f, T.add_blade.fd, _, _, fun _ _ _ => ok_add_blade T, by decide, T.add_blade.F.kp, T.add_blade.b, .inl ⟨by decide, rfl⟩, ⟨p, g, f, h, _, _, rfl, ⟨a, b, rfl, rfl⟩, S, hg, k⟩⟩
  | drop a =>
    obtain z | ⟨h, rfl⟩ := ns
    · cases z
    · exact ⟨T.drop_blade.f, T.drop_blade.fd, _, _, fun _ _ _ => ok_drop_blade T, by decide, T.drop_blade.F.kp, T.drop_blade.b, .inl ⟨by decide, rfl⟩, ⟨p, g, f, h, _, _, rfl, ⟨a, rfl, rfl⟩, S, hg, k⟩⟩
  | best a =>
    obtain z | ⟨h, rfl⟩ := ns
    · cases z
    · exact ⟨T.tell_best.f, T.tell_best.fd, _, _, fun _ _ _ => ok_tell_best T, by decide, T.tell_best.F.kp, T.tell_best.b, .inl ⟨by decide, rfl⟩, ⟨p, g, f, h, _, _, rfl, ⟨a, rfl, rfl⟩, S, hg, k⟩⟩
  | put a =>
    obtain z | ⟨h, rfl⟩ := ns
    · cases z
    · exact ⟨T.put_blade.f, T.put_blade.fd, _, _, fun _ _ _ => ok_put_blade T, by decide, T.put_blade.F.kp, T.put_blade.b, .inl ⟨by decide, rfl⟩, ⟨p, g, f, h, _, _, rfl, ⟨a, rfl, rfl⟩, S, hg, k⟩⟩
  | at_ a b d =>
    obtain z | ⟨h, rfl⟩ := ns
    · cases z
    · exact ⟨T.put_blade_at.f, T.put_blade_at.fd, _, _, fun _ _ _ => ok_put_blade_at T, by decide, T.put_blade_at.F.kp, T.put_blade_at.b, .inl ⟨by decide, rfl⟩, ⟨p, g, f, h, _, _, rfl, ⟨a, b, d, rfl, rfl⟩, S, hg, k⟩⟩
  | cancel a =>
    obtain z | ⟨h, rfl⟩ := ns
    · cases z
    · exact ⟨T.cancel_job.f, T.cancel_job.fd, _, _, fun _ _ _ => ok_cancel_job T, by decide, T.cancel_job.F.kp, T.cancel_job.b, .inl ⟨by decide, rfl⟩, ⟨p, g, f, h, _, _, rfl, ⟨a, rfl, rfl⟩, S, hg, k⟩⟩
  | pass a =>
    obtain z | ⟨h, rfl⟩ := ns
    · cases z
    · exact ⟨T.pass_by.f, T.pass_by.fd, _, _, fun _ _ _ => ok_pass_by T, by decide, T.pass_by.F.kp, T.pass_by.b, .inl ⟨by decide, rfl⟩, ⟨p, g, f, h, _, _, rfl, ⟨a, rfl, rfl⟩, S, hg, k⟩⟩
  | order r hr =>
    obtain z | ⟨h, rfl⟩ := ns
    · cases z
    · exact ⟨T.tell_order.f, T.tell_order.fd, _, _, fun _ _ _ => ok_tell_order T, by decide, T.tell_order.F.kp, T.tell_order.b, .inl ⟨by decide, rfl⟩, ⟨p, g, f, h, _, _, rfl, ⟨r, hr, rfl, rfl⟩, S, hg, k⟩⟩
  | plan =>
    obtain z | ⟨h, rfl⟩ := ns
    · cases z
    · exact ⟨T.tell_plan.f, T.tell_plan.fd, _, _, fun _ _ _ => ok_tell_plan T, by decide, T.tell_plan.F.kp, T.tell_plan.b, .inl ⟨by decide, rfl⟩, ⟨p, g, f, h, _, _, rfl, ⟨rfl, rfl⟩, S, hg, k⟩⟩
  | follow =>
    obtain z | ⟨h, rfl⟩ := ns
    · cases z
    · exact ⟨T.follow_plan.f, T.follow_plan.fd, _, _, fun _ _ _ => ok_follow_plan T, by decide, T.follow_plan.F.kp, T.follow_plan.b, .inl ⟨by decide, rfl⟩, ⟨p, g, f, h, _, _, rfl, ⟨rfl, rfl⟩, S, hg, k⟩⟩
  | over =>
    obtain z | ⟨h, rfl⟩ := ns
    · cases z
    · exact ⟨T.tell_over.f, T.tell_over.fd, _, _, fun _ _ _ => ok_tell_over T, by decide, T.tell_over.F.kp, T.tell_over.b, .inr ⟨by decide, rfl⟩, ⟨p, g, f, h, _, _, rfl, ⟨rfl, rfl⟩, S, hg, k⟩⟩
  | crane a =>
    obtain z | ⟨h, rfl⟩ := ns
    · cases z
    · exact ⟨T.tell_crane.f, T.tell_crane.fd, _, _, fun _ _ _ => ok_tell_crane T, by decide, T.tell_crane.F.kp, T.tell_crane.b, .inr ⟨by decide, rfl⟩, ⟨p, g, f, h, _, _, rfl, ⟨a, rfl, rfl⟩, S, hg, k⟩⟩
  | inside a b =>
    obtain z | ⟨h, rfl⟩ := ns
    · cases z
    · exact ⟨T.tell_inside.f, T.tell_inside.fd, _, _, fun _ _ _ => ok_tell_inside T, by decide, T.tell_inside.F.kp, T.tell_inside.b, .inr ⟨by decide, rfl⟩, ⟨p, g, f, h, _, _, rfl, ⟨a, b, rfl, rfl⟩, S, hg, k⟩⟩
  | freeAt a =>
    obtain z | ⟨h, rfl⟩ := ns
    · cases z
    · exact ⟨T.tell_free_at.f, T.tell_free_at.fd, _, _, fun _ _ _ => ok_tell_free_at T, by decide, T.tell_free_at.F.kp, T.tell_free_at.b, .inr ⟨by decide, rfl⟩, ⟨p, g, f, h, _, _, rfl, ⟨a, rfl, rfl⟩, S, hg, k⟩⟩
  | lifts a =>
    obtain z | ⟨h, rfl⟩ := ns
    · cases z
    · exact ⟨T.tell_lifts.f, T.tell_lifts.fd, _, _, fun _ _ _ => ok_tell_lifts T, by decide, T.tell_lifts.F.kp, T.tell_lifts.b, .inr ⟨by decide, rfl⟩, ⟨p, g, f, h, _, _, rfl, ⟨a, rfl, rfl⟩, S, hg, k⟩⟩
  | idle a =>
    obtain z | ⟨h, rfl⟩ := ns
    · cases z
    · exact ⟨T.tell_idle.f, T.tell_idle.fd, _, _, fun _ _ _ => ok_tell_idle T, by decide, T.tell_idle.F.kp, T.tell_idle.b, .inr ⟨by decide, rfl⟩, ⟨p, g, f, h, _, _, rfl, ⟨a, rfl, rfl⟩, S, hg, k⟩⟩
  | job a =>
    obtain z | ⟨h, rfl⟩ := ns
    · cases z
    · exact ⟨T.tell_job.f, T.tell_job.fd, _, _, fun _ _ _ => ok_tell_job T, by decide, T.tell_job.F.kp, T.tell_job.b, .inr ⟨by decide, rfl⟩, ⟨p, g, f, h, _, _, rfl, ⟨a, rfl, rfl⟩, S, hg, k⟩⟩
  | waiting =>
    obtain z | ⟨h, rfl⟩ := ns
    · cases z
    · exact ⟨T.tell_waiting.f, T.tell_waiting.fd, _, _, fun _ _ _ => ok_tell_waiting T, by decide, T.tell_waiting.F.kp, T.tell_waiting.b, .inr ⟨by decide, rfl⟩, ⟨p, g, f, h, _, _, rfl, ⟨rfl, rfl⟩, S, hg, k⟩⟩
  | state =>
    obtain z | ⟨h, rfl⟩ := ns
    · cases z
    · exact ⟨T.tell_state.f, T.tell_state.fd, _, _, fun _ _ _ => ok_tell_state T, by decide, T.tell_state.F.kp, T.tell_state.b, .inr ⟨by decide, rfl⟩, ⟨p, g, f, h, _, _, rfl, ⟨rfl, rfl⟩, S, hg, k⟩⟩
theorem ok_reply_to (T : Tx K mg) : FnOk P w K mg base CX0 14 T.reply_to.f T.reply_to.fd ["works", "number", "given"] (sp_reply_to T) := by
  refine T.reply_to.F.ok sc_reply_to (fun vs H Q E h => ?_) (fun cdv A outer s H vs Q E hr h => ?_)
  · obtain ⟨p, g, num, f, s, args, c, rfl, _⟩ := h
    rfl
  · obtain ⟨p, g, num, f, s', args, c, rfl, ask, S, hg, k⟩ := h
    refine ⟨_, (pss_cons (ps_if (pw_and (pt_cmpR op_ne (pv 1) (pe_gi T.g_START (by rfl)) (nomark _)) (pw_and1 (pt_not (pt_val (pe_fld (pv 0) rfl))))).pt
    (pss_one (ps_ret (pe_lst (pa_cons (pe_gi T.g_NOT_STARTED (by rfl)) pa_nil))))
    pss_nil)
    (pss_cons (ps_if (pt_cmpR op_lt (pv 1) (pe_callB call_len_seq (by rfl) T.b_len PySem.boot_len (pa_cons (pe_gt (by rfl) T.t_REPLIES.m) pa_nil)) (nomark _))
    (pss_one (ps_set (i := 3) sc_reply_to.nd rfl (Or.inl rfl) (pe_ix ix_tup (pe_gt (by rfl) T.t_REPLIES.m) (pv 1) (fun _ _ => rfl))))
    (pss_one (ps_set (i := 3) sc_reply_to.nd rfl (Or.inl rfl) (pe_ix ix_tup (pe_gt (by rfl) T.t_TELLINGS.m) (pe_op op_sub (pv 1) (pe_callB call_len_seq (by rfl) T.b_len PySem.boot_len (pa_cons (pe_gt (by rfl) T.t_REPLIES.m) pa_nil))) (fun _ _ => rfl)))))
    (pss_one (ps_ret (pe_callL 3 (pa_cons (pv 0) (pa_cons (pv 2) pa_nil))))))), ?_⟩
    by_cases hn : num = 0 ∨ ∃ h, s' = some h
    · obtain ⟨fa, fd, sp, kk, F, hk, kp, hb, tb, hsp⟩ := disp T ask S hg k hn
      refine ⟨_, rfl, rfl, _, rfl, skip_if (fun c0 b => ?_) (iteF ?_)⟩
      · rcases hn with e | ⟨h, rfl⟩
        · rw [e] at c0; exact absurd c0 (by decide)
        · obtain ⟨_, ws, jb, W⟩ := S
          unfold tNot tB
          exact rd_started (T := T) rfl W ⟨_, rfl, b⟩
      refine ⟨_, rfl, T.t_REPLIES.a, _, rfl, .inr (T.t_REPLIES.s _), _, _, rfl, rfl, _, rfl, ite2 (fun c1 => ?_) fun c1 => ?_⟩
      · have c1 : (num : Int) < 12 := of_decide_eq_true c1
        rcases tb with ⟨_, e⟩ | ⟨z, _⟩
        · exact ⟨_, rfl, T.t_REPLIES.a, _, _, _, rfl, rfl, T.t_REPLIES.s _, atI_nat e, fa, fd, _, sp, kk, rfl, F _ _ _, hr.mono hk, kp, hb, _, rfl, _, rfl, hsp⟩
        · omega
      · have c1 : ¬ (num : Int) < 12 := fun z => c1 (decide_eq_true z)
        rcases tb with ⟨z, _⟩ | ⟨z, e⟩
        · omega
        · refine ⟨_, rfl, T.t_REPLIES.a, _, rfl, .inr (T.t_REPLIES.s _), _, _, rfl, rfl, T.t_TELLINGS.a, _, _, .ref fa, rfl, rfl, T.t_TELLINGS.s _, ?_, fa, fd, _, sp, kk, rfl, F _ _ _, hr.mono hk, kp, hb, _, rfl, _, rfl, hsp⟩
          have e2 : (num : Int) - 12 = ((num - 12 : Nat) : Int) := by omega
          show atI _ ((num : Int) - 12) = _
          rw [e2]
          exact atI_nat e
    · have n0 : num ≠ 0 := fun z => hn (.inl z)
      cases s' with
      | some h => exact absurd (.inr ⟨h, rfl⟩) hn
      | none =>
        have es : Kqv4.step none c = (none, .num (-11)) := by
          cases ask <;> first | rfl | exact absurd rfl n0
        rw [es] at k
        obtain ⟨h, ws, jb, W⟩ := id S
        refine ⟨_, rfl, rfl, _, rfl, ?_⟩
        rw [decide_eq_false (fun z => n0 (by injection z with z; omega))]
        refine iteT ?_
        unfold tNot tB
        exact rd_started (T := T) rfl W ⟨_, rfl, iteT ⟨by show 1 ≤ sizeLine; decide, fun q hq => k _ q (out_ref S (-11) hq)⟩⟩
end
end Bp
set_option Elab.async false
set_option linter.all false
set_option maxRecDepth 100000
set_option maxHeartbeats 2000000
namespace Bp
open PySem PySem.Spec PyProof.Rows L2 Bl
open Bc (withJ js_withJ gv Sl js Ask due)
open Kqv4Neutral (tell)
theorem cut_args {ns args t : List Int} {i : Nat} {x : Int} (h : ns.drop i = x :: (args ++ t)) : cutV (ns.map V.int) (some ((i : Int) + 1)) (some ((i : Int) + 1 + (args.length : Nat))) = args.map V.int := by
  have hl : (ns.drop i).length = args.length + t.length + 1 := by rw [h]; simp
  rw [List.length_drop] at hl
  have e1 : (i : Int) + 1 = ((i + 1 : Nat) : Int) := by omega
  have e2 : (i : Int) + 1 + (args.length : Nat) = ((i + 1 + args.length : Nat) : Int) := by omega
  rw [e2, e1]
  unfold cutV
  rw [HT.sIx_nat, HT.sIx_nat, List.length_map]
  have hd1 : ns.drop (i + 1) = args ++ t := by rw [← List.drop_drop, h]; rfl
  rw [show min (i + 1) ns.length = i + 1 by omega, show min (i + 1 + args.length) ns.length = i + 1 + args.length by omega, show i + 1 + args.length - (i + 1) = args.length by omega, ← List.map_drop, ← List.map_take, hd1, List.take_append_of_le_length (Nat.le_refl _), List.take_length]
section
variable {K : PySem.W.Frag} {mg : Str → Option Value} {T : Tx K mg} {H : Hp} {p l : Addr} {st : Bool} {h : Kqv4.Hall} {f : Ft} {ws : List (Nat × Addr × Kqv4.Blade)} {jb : List (Nat × Addr × Kqv4.Job)} {xs : List V} {o : HO}
theorem Wk.updL (W : Wk T H p st h f ws jb) (hl : H l = some (.lst xs)) (nf : l ∉ foot p f) : Wk T (upd H l o) p st h f ws jb := by
  have n : ∀ b ∈ foot p f, b ≠ l := fun b hb e => nf (e ▸ hb)
  exact ⟨by rw [upd_ne (n p (by simp [foot]))]; exact W.o, by rw [upd_ne (n f.lm (by simp [foot]))]; exact W.m, by rw [upd_ne (n f.dw (by simp [foot]))]; exact W.w, by rw [upd_ne (n f.dj (by simp [foot]))]; exact W.j, fun x hx => (W.wa x hx).upd hl lst_nb, fun x hx => (W.ja x hx).upd hl lst_nj lst_nb, W.sw, W.sj, W.ne, W.l4, W.l5, W.l12⟩
theorem StAt.updL {s : Option Kqv4.Hall} (S : StAt T H p f s) (hl : H l = some (.lst xs)) (nf : l ∉ foot p f) : StAt T (upd H l o) p f s := by
  cases s with
  | none => obtain ⟨h, ws, jb, W⟩ := S; exact ⟨h, ws, jb, W.updL hl nf⟩
  | some h => obtain ⟨G, ws, jb, W⟩ := S; exact ⟨G, ws, jb, W.updL hl nf⟩
end
section
variable {P : Program} {w : World} {K : PySem.W.Frag} {mg : Str → Option Value} {base : Heap}
def sp_answers (K : PySem.W.Frag) : Sp := fun vs H Q _ => ∃ (a : Addr) (ns : List Int), vs = [.ref a] ∧ SqL K H a (ns.map V.int) ∧ (∀ x ∈ ns, 0 ≤ x) ∧ PyKqv4.answers_asked ns = true ∧ ∀ (H' : Hp) (p : Addr), H' p = some (.lst ((PyKqv4.answers ns).map V.int)) → Q (.ref p) H'
/-- what holds at each turn -/
def Iv (T : Tx K mg) (ns : List Int) (a p lt : Addr) (H : Hp) (m : Nat) (σ : L2.St) (H' : Hp) : Prop :=
  ∃ (i : Nat) (s : Option Kqv4.Hall) (f : Ft) (told : List Int) (cs : List (List (List Int))) (fuel : Nat) (v4 v5 : Option V), σ = [some (.ref a), some (.ref p), some (.ref lt), some (.int i), v4, v5] ∧ m = ns.length - i ∧ i ≤ ns.length ∧
    PyFlat.calls PyKqv4.shape fuel (ns.drop i) = some cs ∧ PyInside.calls PyKqv4.bound cs = true ∧ StAt T H' p f s ∧ H' lt = some (.lst (told.map V.int)) ∧ told ++ due s cs = PyKqv4.answers ns ∧ lt ∉ foot p f ∧ Same H H' ∧ (∀ b ∈ foot p f, H b = none) ∧ H lt = none
theorem ok_answers (T : Tx K mg) : FnOk P w K mg base CX0 20 T.answers.f T.answers.fd ["calls"] (sp_answers K) := by
  refine T.answers.F.ok sc_answers (fun vs H Q E h => ?_) (fun cdv A outer s H vs Q E hr h => ?_)
  · obtain ⟨a, ns, rfl, _⟩ := h
    rfl
  · obtain ⟨a, ns, rfl, hs, pos, asked, k⟩ := h
    obtain ⟨cs0, hcs0, _, ins0⟩ := Bc.asked_calls asked
    have short := Bc.asked_short asked
    refine ⟨_, (pss_cons (ps_set (i := 1) sc_answers.nd rfl (Or.inl rfl) (pe_mk0 T.Works_init (ok_Works_init T) (hr.mono (by decide)) (by rfl)))
    (pss_cons (ps_set (i := 2) sc_answers.nd rfl (Or.inl rfl) (pe_lst pa_nil))
    (pss_cons (ps_set (i := 3) sc_answers.nd rfl (Or.inl rfl) pe_int)
    (pss_cons (ps_while PassesOwn.never (pt_cmpR op_lt (pv 3) (pe_callB call_len_seq (by rfl) T.b_len PySem.boot_len (pa_cons (pv 0) pa_nil)) (nomark _))
    (pss_cons (ps_set (i := 4) sc_answers.nd rfl (Or.inl rfl) (pe_op op_add (pe_op op_add (pv 3) pe_int) (pe_dn T.count_given (ok_count_given T) (hr.mono (by decide)) (by rfl) (pa_cons (pv 0) (pa_cons (pv 3) pa_nil)))))
      (pss_cons (ps_set (i := 5) sc_answers.nd rfl (Or.inl rfl) (pe_dn T.reply_to (ok_reply_to T) (hr.mono (by decide)) (by rfl) (pa_cons (pv 1) (pa_cons (pe_ix ix_list (pv 0) (pv 3) (fun _ _ => rfl)) (pa_cons (pe_slice sl_list (pv 0) (po_some (pe_op op_add (pv 3) pe_int)) (po_some (pv 4))) pa_nil)))))
      (pss_cons (ps_expr (pe_bm PySem.F.plainAttrs_list PySem.F.slot_list_append PySem.F.type_list_append mt_append (pv 2) (pa_cons (pe_callB call_len_seq (by rfl) T.b_len PySem.boot_len (pa_cons (pv 5) pa_nil)) pa_nil)))
      (pss_cons (ps_expr (pe_bm PySem.F.plainAttrs_list PySem.F.slot_list_extend PySem.F.type_list_extend mt_extend (pv 2) (pa_cons (pv 5) pa_nil)))
      (pss_one (ps_set (i := 3) sc_answers.nd rfl (Or.inl rfl) (pv 4))))))))
    (pss_one (ps_ret (pv 2))))))), ?_⟩
    -- works = Works()
    intro x dx nx ndx nex
    refine ⟨x, dx, rfl, upd_same, fun H1 lm dw dj e => ⟨rfl, ?_⟩⟩
    have s01 : Same H H1 := fun b o z => e.fr b o (same_made nx ndx _ _ z) (ne_of_none z nx)
    have fr0 : ∀ b ∈ foot x ⟨dx, lm, dw, dj⟩, H b = none := fun b hb => by
      simp only [foot, List.mem_cons, List.not_mem_nil, or_false] at hb
      have sm := same_made (o := .ins T.Works.C dx []) (u := .own x) nx ndx
      rcases hb with y | y | y | y
      · rw [y]; exact nx
      · rw [y]; exact sm.free e.nm
      · rw [y]; exact sm.free e.nw
      · rw [y]; exact sm.free e.nj
    have S0 : StAt T H1 x ⟨dx, lm, dw, dj⟩ none := ⟨_, _, _, e.wk⟩
    -- told = []
    refine ⟨Nat.zero_le _, fun lt hlt => ?_⟩
    have s12 := same_new (o := .lst []) hlt
    have nlt : lt ∉ foot x ⟨dx, lm, dw, dj⟩ := fun m => by obtain ⟨o, z⟩ := S0.foot_some lt m; rw [hlt] at z; cases z
    refine ⟨Iv T ns a x lt H, ⟨ns.length, 0, none, ⟨dx, lm, dw, dj⟩, [], cs0, ns.length, none, none, rfl, rfl, Nat.zero_le _, hcs0, ins0, S0.mono s12, upd_same, by rw [Bc.answers_due hcs0]; rfl, nlt, s01.trans s12, fr0, s01.free hlt⟩, ?_⟩
    rintro m σ H' ⟨i, s, f, told, cs, fuel, v4, v5, rfl, rfl, hi, hcs, ins, S, htold, hdue, nf, sm, fr, hlt0⟩
    have hs' := sm.seq hs
    refine ⟨_, rfl, _, rfl, a, _, rfl, .inl hs', _, _, rfl, rfl, _, rfl, ite2 (fun c1 => ?_) fun c1 => ?_⟩
    case refine_2 =>
      have c1 : ¬ (i : Int) < ((ns.map V.int).length : Int) := fun z => c1 (decide_eq_true z)
      rw [List.length_map] at c1
      have ei : i = ns.length := by omega
      rw [ei, List.drop_length] at hcs
      have ec := Bc.calls_nil hcs
      rw [ec, Bc.due_nil, List.append_nil] at hdue
      refine ⟨_, rfl, k H' lt ?_⟩
      rw [htold, hdue]
    have c1 := of_decide_eq_true c1
    rw [List.length_map] at c1
    have hil : i < ns.length := by omega
    obtain ⟨x0, r0, hx0⟩ : ∃ x0 r0, ns.drop i = x0 :: r0 := ⟨_, _, List.drop_eq_getElem_cons hil⟩
    have hcs' := hcs
    rw [hx0] at hcs'
    obtain ⟨f', c, t, cs', _, hcall, hrest, rfl⟩ := Bc.calls_cons hcs'
    obtain ⟨kc, hF⟩ := Bc.first_of hcall
    have posd : ∀ z ∈ x0 :: r0, 0 ≤ z := fun z hz => pos z (List.mem_of_mem_drop (by rw [hx0]; exact hz))
    obtain ⟨num, args, el, ask⟩ := hF.ask posd ins
    have hd : ns.drop i = (num : Int) :: (args ++ t) := by rw [hx0, el]
    have hlen : ns.length = i + (1 + (args.length + t.length)) := by
      have : (ns.drop i).length = 1 + (args.length + t.length) := by rw [hd]; simp; omega
      rw [List.length_drop] at this
      omega
    have hdt : ns.drop (i + 1 + args.length) = t := by
      rw [show i + 1 + args.length = i + (1 + args.length) by omega, ← List.drop_drop, hd, ← List.drop_drop]
      show (args ++ t).drop args.length = t
      rw [List.drop_append_of_le_length (Nat.le_refl _), List.drop_length]
      rfl
    rw [Bc.due_cons hF] at hdue
    refine ⟨Iv T ns a x lt H (ns.length - (i + 1 + args.length)), fun σ' H'' z => ⟨_, by omega, z⟩, ?_⟩
    -- behind = place + 1 + count_given(calls, place)
    refine ⟨_, rfl, _, _, rfl, rfl, _, rfl, _, rfl, a, ns, i, num, args, t, kc, rfl, hs', hd, ask, _, _, rfl, rfl, ?_⟩
    -- numbers = reply_to(works, calls[place], calls[place + 1:behind])
    refine ⟨_, rfl, _, rfl, _, rfl, a, _, _, _, rfl, rfl, hs', drop_get hd, _, rfl, _, rfl, _, _, rfl, rfl, _, rfl, _, rfl, _, rfl, a, _, rfl, hs', fun g hg => ?_⟩
    rw [cut_args hd]
    have s1 := same_new (o := .lst (args.map V.int)) hg
    have hg1 : (upd H' g (.lst (args.map V.int))) g = some (.lst (args.map V.int)) := upd_same
    have ht1 := s1 _ _ htold
    generalize upd H' g (.lst (args.map V.int)) = H1' at s1 hg1 ht1 ⊢
    refine ⟨x, g, num, f, s, args, kc, rfl, ask, S.mono s1, hg1, fun H2 q O => ?_⟩
    obtain ⟨f2, S2, ft2, nq2⟩ := O.ex
    have ht2 := O.fr _ _ ht1 nf
    have ql : q ≠ lt := fun z => by
      have := O.nq
      rw [z, ht1] at this
      cases this
    have nf2 : lt ∉ foot x f2 := fun m => by
      rcases ft2 lt m with z | z
      · exact nf z
      · rw [ht1] at z; cases z
    have sm2 : Same H H2 := fun b o z => O.fr b o (s1 _ _ (sm _ _ z)) fun m => by rw [fr b m] at z; cases z
    have fr2 : ∀ b ∈ foot x f2, H b = none := fun b hb => by
      rcases ft2 b hb with z | z
      · exact fr b z
      · exact (sm.trans s1).free z
    have hans := O.an
    generalize ea : tell (Kqv4.step s kc).2 = ans at hans hdue
    have dl : (told ++ ((ans.length : Int) :: ans ++ due (Kqv4.step s kc).1 cs')).length ≤ 10000000 := by rw [hdue]; exact short
    simp only [List.length_append, List.length_cons] at dl
    -- told.append(len(numbers))
    refine ⟨_, rfl, .inl ⟨rfl, _, SqL.of ht2⟩, _, rfl, q, _, rfl, .inl (SqL.of hans), lt, _, _, rfl, rfl, ht2, by rw [List.length_map, sizeLine_eq]; omega, ?_⟩
    rw [List.length_map]
    have ht3 : (upd H2 lt (.lst (told.map V.int ++ [V.int (ans.length : Nat)]))) lt = some (.lst ((told ++ [(ans.length : Int)]).map V.int)) := by rw [upd_same, List.map_append]; rfl
    have ha3 : (upd H2 lt (.lst (told.map V.int ++ [V.int (ans.length : Nat)]))) q = some (.lst (ans.map V.int)) := by rw [upd_ne ql]; exact hans
    have S3 : StAt T (upd H2 lt (.lst (told.map V.int ++ [V.int (ans.length : Nat)]))) x f2 (Kqv4.step s kc).1 := S2.updL ht2 nf2
    have sm3 : Same H (upd H2 lt (.lst (told.map V.int ++ [V.int (ans.length : Nat)]))) := fun b o z => by
      rw [upd_ne (ne_of_none z hlt0)]; exact sm2 _ _ z
    generalize upd H2 lt (.lst (told.map V.int ++ [V.int (ans.length : Nat)])) = H3 at ht3 ha3 S3 sm3 ⊢
    -- told.extend(numbers)
    refine ⟨_, rfl, .inl ⟨rfl, _, SqL.of ht3⟩, _, rfl, lt, q, _, _, rfl, rfl, ht3, ha3, by rw [List.length_map, List.length_map, List.length_append, sizeLine_eq]; show _ + 1 + _ ≤ _; omega, ?_⟩
    -- place = behind
    refine ⟨_, rfl, i + 1 + args.length, (Kqv4.step s kc).1, f2, told ++ [(ans.length : Int)] ++ ans, cs', f', _, _, rfl, rfl, by omega, by rw [hdt]; exact hrest, Bc.inside_tail ins, S3.updL ht3 nf2, by rw [upd_same, ← List.map_append], ?_, nf2, fun b o z => ?_, fr2, hlt0⟩
    · rw [← hdue]
      simp
    · rw [upd_ne (ne_of_none z hlt0)]; exact sm3 _ _ z
end
end Bp
set_option Elab.async false
set_option linter.all false
set_option maxRecDepth 100000
set_option maxHeartbeats 4000000
namespace Bp
open PySem PySem.Spec PyProof.Rows L2 Bl
open PySem.W (Codec)
theorem row_mk {P : Program} {w : World} {K : PySem.W.Frag} {mg : Str → Option Value} {h : Heap} {fa : Addr} (X : K.In h) (G : h.Ns mainGlobals mg) (hfa : mg "answers" = some (.ref fa))
    {C_Blade : Addr}
    {C_Job : Addr}
    {C_Works : Addr}
    {f_Blade_init : Addr} {od_Blade_init an_Blade_init : Option Addr} {sl_Blade_init : Array (Option Value)} {oc_Blade_init kV_Blade_init dc_Blade_init pm_Blade_init cd_Blade_init ct_Blade_init : Value}
    {f_Job_init : Addr} {od_Job_init an_Job_init : Option Addr} {sl_Job_init : Array (Option Value)} {oc_Job_init kV_Job_init dc_Job_init pm_Job_init cd_Job_init ct_Job_init : Value}
    {f_Works_init : Addr} {od_Works_init an_Works_init : Option Addr} {sl_Works_init : Array (Option Value)} {oc_Works_init kV_Works_init dc_Works_init pm_Works_init cd_Works_init ct_Works_init : Value}
    {f_Works_make_empty : Addr} {od_Works_make_empty an_Works_make_empty : Option Addr} {sl_Works_make_empty : Array (Option Value)} {oc_Works_make_empty kV_Works_make_empty dc_Works_make_empty pm_Works_make_empty cd_Works_make_empty ct_Works_make_empty : Value}
    {f_is_mould : Addr} {od_is_mould an_is_mould : Option Addr} {sl_is_mould : Array (Option Value)} {oc_is_mould kV_is_mould dc_is_mould pm_is_mould cd_is_mould ct_is_mould : Value}
    {f_all_jobs : Addr} {od_all_jobs an_all_jobs : Option Addr} {sl_all_jobs : Array (Option Value)} {oc_all_jobs kV_all_jobs dc_all_jobs pm_all_jobs cd_all_jobs ct_all_jobs : Value}
    {f_least_free_number : Addr} {od_least_free_number an_least_free_number : Option Addr} {sl_least_free_number : Array (Option Value)} {oc_least_free_number kV_least_free_number dc_least_free_number pm_least_free_number cd_least_free_number ct_least_free_number : Value}
    {f_add_waiting : Addr} {od_add_waiting an_add_waiting : Option Addr} {sl_add_waiting : Array (Option Value)} {oc_add_waiting kV_add_waiting dc_add_waiting pm_add_waiting cd_add_waiting ct_add_waiting : Value}
    {f_make_job : Addr} {od_make_job an_make_job : Option Addr} {sl_make_job : Array (Option Value)} {oc_make_job kV_make_job dc_make_job pm_make_job cd_make_job ct_make_job : Value}
    {f_make_waiting : Addr} {od_make_waiting an_make_waiting : Option Addr} {sl_make_waiting : Array (Option Value)} {oc_make_waiting kV_make_waiting dc_make_waiting pm_make_waiting cd_make_waiting ct_make_waiting : Value}
    {f_first_lift : Addr} {od_first_lift an_first_lift : Option Addr} {sl_first_lift : Array (Option Value)} {oc_first_lift kV_first_lift dc_first_lift pm_first_lift cd_first_lift ct_first_lift : Value}
    {f_free_at_last : Addr} {od_free_at_last an_free_at_last : Option Addr} {sl_free_at_last : Array (Option Value)} {oc_free_at_last kV_free_at_last dc_free_at_last pm_free_at_last cd_free_at_last ct_free_at_last : Value}
    {f_job_from : Addr} {od_job_from an_job_from : Option Addr} {sl_job_from : Array (Option Value)} {oc_job_from kV_job_from dc_job_from pm_job_from cd_job_from ct_job_from : Value}
    {f_mould_is_used : Addr} {od_mould_is_used an_mould_is_used : Option Addr} {sl_mould_is_used : Array (Option Value)} {oc_mould_is_used kV_mould_is_used dc_mould_is_used pm_mould_is_used cd_mould_is_used ct_mould_is_used : Value}
    {f_has_mould : Addr} {od_has_mould an_has_mould : Option Addr} {sl_has_mould : Array (Option Value)} {oc_has_mould kV_has_mould dc_has_mould pm_has_mould cd_has_mould ct_has_mould : Value}
    {f_best_job : Addr} {od_best_job an_best_job : Option Addr} {sl_best_job : Array (Option Value)} {oc_best_job kV_best_job dc_best_job pm_best_job cd_best_job ct_best_job : Value}
    {f_last_out : Addr} {od_last_out an_last_out : Option Addr} {sl_last_out : Array (Option Value)} {oc_last_out kV_last_out dc_last_out pm_last_out cd_last_out ct_last_out : Value}
    {f_end_of_order : Addr} {od_end_of_order an_end_of_order : Option Addr} {sl_end_of_order : Array (Option Value)} {oc_end_of_order kV_end_of_order dc_end_of_order pm_end_of_order cd_end_of_order ct_end_of_order : Value}
    {f_best_order : Addr} {od_best_order an_best_order : Option Addr} {sl_best_order : Array (Option Value)} {oc_best_order kV_best_order dc_best_order pm_best_order cd_best_order ct_best_order : Value}
    {f_better_order : Addr} {od_better_order an_better_order : Option Addr} {sl_better_order : Array (Option Value)} {oc_better_order kV_better_order dc_better_order pm_better_order cd_better_order ct_better_order : Value}
    {f_tell_over : Addr} {od_tell_over an_tell_over : Option Addr} {sl_tell_over : Array (Option Value)} {oc_tell_over kV_tell_over dc_tell_over pm_tell_over cd_tell_over ct_tell_over : Value}
    {f_tell_crane : Addr} {od_tell_crane an_tell_crane : Option Addr} {sl_tell_crane : Array (Option Value)} {oc_tell_crane kV_tell_crane dc_tell_crane pm_tell_crane cd_tell_crane ct_tell_crane : Value}
    {f_part_of_job : Addr} {od_part_of_job an_part_of_job : Option Addr} {sl_part_of_job : Array (Option Value)} {oc_part_of_job kV_part_of_job dc_part_of_job pm_part_of_job cd_part_of_job ct_part_of_job : Value}
    {f_tell_inside : Addr} {od_tell_inside an_tell_inside : Option Addr} {sl_tell_inside : Array (Option Value)} {oc_tell_inside kV_tell_inside dc_tell_inside pm_tell_inside cd_tell_inside ct_tell_inside : Value}
    {f_tell_free_at : Addr} {od_tell_free_at an_tell_free_at : Option Addr} {sl_tell_free_at : Array (Option Value)} {oc_tell_free_at kV_tell_free_at dc_tell_free_at pm_tell_free_at cd_tell_free_at ct_tell_free_at : Value}
    {f_tell_lifts : Addr} {od_tell_lifts an_tell_lifts : Option Addr} {sl_tell_lifts : Array (Option Value)} {oc_tell_lifts kV_tell_lifts dc_tell_lifts pm_tell_lifts cd_tell_lifts ct_tell_lifts : Value}
    {f_count_used : Addr} {od_count_used an_count_used : Option Addr} {sl_count_used : Array (Option Value)} {oc_count_used kV_count_used dc_count_used pm_count_used cd_count_used ct_count_used : Value}
    {f_tell_idle : Addr} {od_tell_idle an_tell_idle : Option Addr} {sl_tell_idle : Array (Option Value)} {oc_tell_idle kV_tell_idle dc_tell_idle pm_tell_idle cd_tell_idle ct_tell_idle : Value}
    {f_tell_job : Addr} {od_tell_job an_tell_job : Option Addr} {sl_tell_job : Array (Option Value)} {oc_tell_job kV_tell_job dc_tell_job pm_tell_job cd_tell_job ct_tell_job : Value}
    {f_tell_waiting : Addr} {od_tell_waiting an_tell_waiting : Option Addr} {sl_tell_waiting : Array (Option Value)} {oc_tell_waiting kV_tell_waiting dc_tell_waiting pm_tell_waiting cd_tell_waiting ct_tell_waiting : Value}
    {f_tell_state : Addr} {od_tell_state an_tell_state : Option Addr} {sl_tell_state : Array (Option Value)} {oc_tell_state kV_tell_state dc_tell_state pm_tell_state cd_tell_state ct_tell_state : Value}
    {f_start_anew : Addr} {od_start_anew an_start_anew : Option Addr} {sl_start_anew : Array (Option Value)} {oc_start_anew kV_start_anew dc_start_anew pm_start_anew cd_start_anew ct_start_anew : Value}
    {f_add_mould : Addr} {od_add_mould an_add_mould : Option Addr} {sl_add_mould : Array (Option Value)} {oc_add_mould kV_add_mould dc_add_mould pm_add_mould cd_add_mould ct_add_mould : Value}
    {f_add_blade : Addr} {od_add_blade an_add_blade : Option Addr} {sl_add_blade : Array (Option Value)} {oc_add_blade kV_add_blade dc_add_blade pm_add_blade cd_add_blade ct_add_blade : Value}
    {f_drop_blade : Addr} {od_drop_blade an_drop_blade : Option Addr} {sl_drop_blade : Array (Option Value)} {oc_drop_blade kV_drop_blade dc_drop_blade pm_drop_blade cd_drop_blade ct_drop_blade : Value}
    {f_tell_best : Addr} {od_tell_best an_tell_best : Option Addr} {sl_tell_best : Array (Option Value)} {oc_tell_best kV_tell_best dc_tell_best pm_tell_best cd_tell_best ct_tell_best : Value}
    {f_put_into_best : Addr} {od_put_into_best an_put_into_best : Option Addr} {sl_put_into_best : Array (Option Value)} {oc_put_into_best kV_put_into_best dc_put_into_best pm_put_into_best cd_put_into_best ct_put_into_best : Value}
    {f_put_blade : Addr} {od_put_blade an_put_blade : Option Addr} {sl_put_blade : Array (Option Value)} {oc_put_blade kV_put_blade dc_put_blade pm_put_blade cd_put_blade ct_put_blade : Value}
    {f_put_blade_at : Addr} {od_put_blade_at an_put_blade_at : Option Addr} {sl_put_blade_at : Array (Option Value)} {oc_put_blade_at kV_put_blade_at dc_put_blade_at pm_put_blade_at cd_put_blade_at ct_put_blade_at : Value}
    {f_cancel_job : Addr} {od_cancel_job an_cancel_job : Option Addr} {sl_cancel_job : Array (Option Value)} {oc_cancel_job kV_cancel_job dc_cancel_job pm_cancel_job cd_cancel_job ct_cancel_job : Value}
    {f_pass_by : Addr} {od_pass_by an_pass_by : Option Addr} {sl_pass_by : Array (Option Value)} {oc_pass_by kV_pass_by dc_pass_by pm_pass_by cd_pass_by ct_pass_by : Value}
    {f_can_be_put : Addr} {od_can_be_put an_can_be_put : Option Addr} {sl_can_be_put : Array (Option Value)} {oc_can_be_put kV_can_be_put dc_can_be_put pm_can_be_put cd_can_be_put ct_can_be_put : Value}
    {f_tell_order : Addr} {od_tell_order an_tell_order : Option Addr} {sl_tell_order : Array (Option Value)} {oc_tell_order kV_tell_order dc_tell_order pm_tell_order cd_tell_order ct_tell_order : Value}
    {f_all_can_be_put : Addr} {od_all_can_be_put an_all_can_be_put : Option Addr} {sl_all_can_be_put : Array (Option Value)} {oc_all_can_be_put kV_all_can_be_put dc_all_can_be_put pm_all_can_be_put cd_all_can_be_put ct_all_can_be_put : Value}
    {f_tell_plan : Addr} {od_tell_plan an_tell_plan : Option Addr} {sl_tell_plan : Array (Option Value)} {oc_tell_plan kV_tell_plan dc_tell_plan pm_tell_plan cd_tell_plan ct_tell_plan : Value}
    {f_follow_plan : Addr} {od_follow_plan an_follow_plan : Option Addr} {sl_follow_plan : Array (Option Value)} {oc_follow_plan kV_follow_plan dc_follow_plan pm_follow_plan cd_follow_plan ct_follow_plan : Value}
    {f_count_given : Addr} {od_count_given an_count_given : Option Addr} {sl_count_given : Array (Option Value)} {oc_count_given kV_count_given dc_count_given pm_count_given cd_count_given ct_count_given : Value}
    {f_reply_to : Addr} {od_reply_to an_reply_to : Option Addr} {sl_reply_to : Array (Option Value)} {oc_reply_to kV_reply_to dc_reply_to pm_reply_to cd_reply_to ct_reply_to : Value}
    {f_answers : Addr} {od_answers an_answers : Option Addr} {sl_answers : Array (Option Value)} {oc_answers kV_answers dc_answers pm_answers cd_answers ct_answers : Value}
    {t_LONGEST_LIFT : Tok}
    {t_LONGEST_CLEAN : Tok}
    {t_HIGHEST_KIND : Tok}
    {t_LONGEST_IN_MOULD : Tok}
    {t_MOST_MOULDS : Tok}
    {t_MOST_WAITING : Tok}
    {t_MOST_JOBS : Tok}
    {t_FARTHEST_AHEAD : Tok}
    {t_LONGEST_PASS : Tok}
    {t_LAST_MINUTE : Tok}
    {t_NONE_SUCH : Tok}
    {t_NOT_STARTED : Tok}
    {t_BEGUN : Tok}
    {t_IN_USE : Tok}
    {t_OUT_OF_RANGE : Tok}
    {t_FULL : Tok}
    {t_NOT_POSSIBLE : Tok}
    {t_NOT_IN_USE : Tok}
    {t_NOT_READY : Tok}
    {t_WAITS_FOR_CRANE : Tok}
    {t_BEING_LIFTED : Tok}
    {t_BEING_CLEANED : Tok}
    {t_START : Tok}
    {t_ORDER : Tok}
    {r_TELLINGS : Addr} {sz_TELLINGS : Nat}
    {r_REPLIES : Addr} {sz_REPLIES : Nat}
    {tk_0 : Tok}
    {tk_1 : Tok}
    {tk_2 : Tok}
    {tk_3 : Tok}
    {tk_4 : Tok}
    {tk_5 : Tok}
    {tk_6 : Tok}
    {tk_7 : Tok}
    {tk_8 : Tok}
    {tk_9 : Tok}
    {tk_10 : Tok}
    {tk_11 : Tok}
    {tk_12 : Tok}
    {tk_13 : Tok}
    {tk_14 : Tok}
    {tk_15 : Tok}
    {tk_16 : Tok}
    {tk_17 : Tok}
    {tk_18 : Tok}
    {tk_19 : Tok}
    {tk_20 : Tok}
    {r_GIVEN_COUNTS : Addr} {sz_GIVEN_COUNTS : Nat}
    (aC_Blade : PySem.W.nsIn K mainGlobals "Blade" = some (some (.ref C_Blade)))
    (pg_Blade : PySem.W.plainGet K C_Blade Str.empty = true)
    (hd_Blade : PySem.W.hasDictIn K C_Blade = true)
    (po_Blade : PySem.W.plainOver K C_Blade = true)
    (sa_Blade : PySem.W.findIn K (.ref C_Blade) "__setattr__" = some (some (.builtin "object.__setattr__")))
    (mk_Blade : PySem.W.makesIn K C_Blade = true)
    (kc_Blade : PySem.W.keepIn K (.ref C_Blade) = true)
    (n_Blade_kind : PySem.W.findIn K (.ref C_Blade) "kind" = some none)
    (n_Blade_minutes : PySem.W.findIn K (.ref C_Blade) "minutes" = some none)
    (aC_Job : PySem.W.nsIn K mainGlobals "Job" = some (some (.ref C_Job)))
    (pg_Job : PySem.W.plainGet K C_Job Str.empty = true)
    (hd_Job : PySem.W.hasDictIn K C_Job = true)
    (po_Job : PySem.W.plainOver K C_Job = true)
    (sa_Job : PySem.W.findIn K (.ref C_Job) "__setattr__" = some (some (.builtin "object.__setattr__")))
    (mk_Job : PySem.W.makesIn K C_Job = true)
    (kc_Job : PySem.W.keepIn K (.ref C_Job) = true)
    (n_Job_blade : PySem.W.findIn K (.ref C_Job) "blade" = some none)
    (n_Job_mould : PySem.W.findIn K (.ref C_Job) "mould" = some none)
    (n_Job_begin : PySem.W.findIn K (.ref C_Job) "begin" = some none)
    (n_Job_ready : PySem.W.findIn K (.ref C_Job) "ready" = some none)
    (n_Job_lifted : PySem.W.findIn K (.ref C_Job) "lifted" = some none)
    (n_Job_out : PySem.W.findIn K (.ref C_Job) "out" = some none)
    (n_Job_free : PySem.W.findIn K (.ref C_Job) "free" = some none)
    (aC_Works : PySem.W.nsIn K mainGlobals "Works" = some (some (.ref C_Works)))
    (pg_Works : PySem.W.plainGet K C_Works Str.empty = true)
    (hd_Works : PySem.W.hasDictIn K C_Works = true)
    (po_Works : PySem.W.plainOver K C_Works = true)
    (sa_Works : PySem.W.findIn K (.ref C_Works) "__setattr__" = some (some (.builtin "object.__setattr__")))
    (mk_Works : PySem.W.makesIn K C_Works = true)
    (kc_Works : PySem.W.keepIn K (.ref C_Works) = true)
    (n_Works_started : PySem.W.findIn K (.ref C_Works) "started" = some none)
    (n_Works_lift : PySem.W.findIn K (.ref C_Works) "lift" = some none)
    (n_Works_clean : PySem.W.findIn K (.ref C_Works) "clean" = some none)
    (n_Works_minute : PySem.W.findIn K (.ref C_Works) "minute" = some none)
    (n_Works_moulds : PySem.W.findIn K (.ref C_Works) "moulds" = some none)
    (n_Works_waiting : PySem.W.findIn K (.ref C_Works) "waiting" = some none)
    (n_Works_jobs : PySem.W.findIn K (.ref C_Works) "jobs" = some none)
    (n_Works_done : PySem.W.findIn K (.ref C_Works) "done" = some none)
    (a_Blade_init : PySem.W.findIn K (.ref C_Blade) "__init__" = some (some (.ref f_Blade_init)))
    (i_Blade_init : PySem.W.isFn K (.ref f_Blade_init) = true)
    (l_Blade_init : K.lookup f_Blade_init = some ⟨oc_Blade_init, od_Blade_init, .func (PySem.W.fnOf "__init__" "Blade.__init__" (defArgs s_Blade_init) (defBody s_Blade_init) (defScope s_Blade_init) .none kV_Blade_init dc_Blade_init pm_Blade_init an_Blade_init cd_Blade_init ct_Blade_init), sl_Blade_init⟩)
    (c_Blade_init : PySem.W.codeIn K cd_Blade_init "Blade.__init__" = true)
    (k_Blade_init : PySem.W.keepIn K (.ref f_Blade_init) = true)
    (a_Job_init : PySem.W.findIn K (.ref C_Job) "__init__" = some (some (.ref f_Job_init)))
    (i_Job_init : PySem.W.isFn K (.ref f_Job_init) = true)
    (l_Job_init : K.lookup f_Job_init = some ⟨oc_Job_init, od_Job_init, .func (PySem.W.fnOf "__init__" "Job.__init__" (defArgs s_Job_init) (defBody s_Job_init) (defScope s_Job_init) .none kV_Job_init dc_Job_init pm_Job_init an_Job_init cd_Job_init ct_Job_init), sl_Job_init⟩)
    (c_Job_init : PySem.W.codeIn K cd_Job_init "Job.__init__" = true)
    (k_Job_init : PySem.W.keepIn K (.ref f_Job_init) = true)
    (a_Works_init : PySem.W.findIn K (.ref C_Works) "__init__" = some (some (.ref f_Works_init)))
    (i_Works_init : PySem.W.isFn K (.ref f_Works_init) = true)
    (l_Works_init : K.lookup f_Works_init = some ⟨oc_Works_init, od_Works_init, .func (PySem.W.fnOf "__init__" "Works.__init__" (defArgs s_Works_init) (defBody s_Works_init) (defScope s_Works_init) .none kV_Works_init dc_Works_init pm_Works_init an_Works_init cd_Works_init ct_Works_init), sl_Works_init⟩)
    (c_Works_init : PySem.W.codeIn K cd_Works_init "Works.__init__" = true)
    (k_Works_init : PySem.W.keepIn K (.ref f_Works_init) = true)
    (a_Works_make_empty : PySem.W.findIn K (.ref C_Works) "make_empty" = some (some (.ref f_Works_make_empty)))
    (i_Works_make_empty : PySem.W.isFn K (.ref f_Works_make_empty) = true)
    (l_Works_make_empty : K.lookup f_Works_make_empty = some ⟨oc_Works_make_empty, od_Works_make_empty, .func (PySem.W.fnOf "make_empty" "Works.make_empty" (defArgs s_Works_make_empty) (defBody s_Works_make_empty) (defScope s_Works_make_empty) .none kV_Works_make_empty dc_Works_make_empty pm_Works_make_empty an_Works_make_empty cd_Works_make_empty ct_Works_make_empty), sl_Works_make_empty⟩)
    (c_Works_make_empty : PySem.W.codeIn K cd_Works_make_empty "Works.make_empty" = true)
    (k_Works_make_empty : PySem.W.keepIn K (.ref f_Works_make_empty) = true)
    (a_is_mould : PySem.W.nsIn K mainGlobals "is_mould" = some (some (.ref f_is_mould)))
    (l_is_mould : K.lookup f_is_mould = some ⟨oc_is_mould, od_is_mould, .func (PySem.W.fnOf "is_mould" "is_mould" (defArgs s_is_mould) (defBody s_is_mould) (defScope s_is_mould) .none kV_is_mould dc_is_mould pm_is_mould an_is_mould cd_is_mould ct_is_mould), sl_is_mould⟩)
    (c_is_mould : PySem.W.codeIn K cd_is_mould "is_mould" = true)
    (k_is_mould : PySem.W.keepIn K (.ref f_is_mould) = true)
    (a_all_jobs : PySem.W.nsIn K mainGlobals "all_jobs" = some (some (.ref f_all_jobs)))
    (l_all_jobs : K.lookup f_all_jobs = some ⟨oc_all_jobs, od_all_jobs, .func (PySem.W.fnOf "all_jobs" "all_jobs" (defArgs s_all_jobs) (defBody s_all_jobs) (defScope s_all_jobs) .none kV_all_jobs dc_all_jobs pm_all_jobs an_all_jobs cd_all_jobs ct_all_jobs), sl_all_jobs⟩)
    (c_all_jobs : PySem.W.codeIn K cd_all_jobs "all_jobs" = true)
    (k_all_jobs : PySem.W.keepIn K (.ref f_all_jobs) = true)
    (a_least_free_number : PySem.W.nsIn K mainGlobals "least_free_number" = some (some (.ref f_least_free_number)))
    (l_least_free_number : K.lookup f_least_free_number = some ⟨oc_least_free_number, od_least_free_number, .func (PySem.W.fnOf "least_free_number" "least_free_number" (defArgs s_least_free_number) (defBody s_least_free_number) (defScope s_least_free_number) .none kV_least_free_number dc_least_free_number pm_least_free_number an_least_free_number cd_least_free_number ct_least_free_number), sl_least_free_number⟩)
    (c_least_free_number : PySem.W.codeIn K cd_least_free_number "least_free_number" = true)
    (k_least_free_number : PySem.W.keepIn K (.ref f_least_free_number) = true)
    (a_add_waiting : PySem.W.nsIn K mainGlobals "add_waiting" = some (some (.ref f_add_waiting)))
    (l_add_waiting : K.lookup f_add_waiting = some ⟨oc_add_waiting, od_add_waiting, .func (PySem.W.fnOf "add_waiting" "add_waiting" (defArgs s_add_waiting) (defBody s_add_waiting) (defScope s_add_waiting) .none kV_add_waiting dc_add_waiting pm_add_waiting an_add_waiting cd_add_waiting ct_add_waiting), sl_add_waiting⟩)
    (c_add_waiting : PySem.W.codeIn K cd_add_waiting "add_waiting" = true)
    (k_add_waiting : PySem.W.keepIn K (.ref f_add_waiting) = true)
    (a_make_job : PySem.W.nsIn K mainGlobals "make_job" = some (some (.ref f_make_job)))
    (l_make_job : K.lookup f_make_job = some ⟨oc_make_job, od_make_job, .func (PySem.W.fnOf "make_job" "make_job" (defArgs s_make_job) (defBody s_make_job) (defScope s_make_job) .none kV_make_job dc_make_job pm_make_job an_make_job cd_make_job ct_make_job), sl_make_job⟩)
    (c_make_job : PySem.W.codeIn K cd_make_job "make_job" = true)
    (k_make_job : PySem.W.keepIn K (.ref f_make_job) = true)
    (a_make_waiting : PySem.W.nsIn K mainGlobals "make_waiting" = some (some (.ref f_make_waiting)))
    (l_make_waiting : K.lookup f_make_waiting = some ⟨oc_make_waiting, od_make_waiting, .func (PySem.W.fnOf "make_waiting" "make_waiting" (defArgs s_make_waiting) (defBody s_make_waiting) (defScope s_make_waiting) .none kV_make_waiting dc_make_waiting pm_make_waiting an_make_waiting cd_make_waiting ct_make_waiting), sl_make_waiting⟩)
    (c_make_waiting : PySem.W.codeIn K cd_make_waiting "make_waiting" = true)
    (k_make_waiting : PySem.W.keepIn K (.ref f_make_waiting) = true)
    (a_first_lift : PySem.W.nsIn K mainGlobals "first_lift" = some (some (.ref f_first_lift)))
    (l_first_lift : K.lookup f_first_lift = some ⟨oc_first_lift, od_first_lift, .func (PySem.W.fnOf "first_lift" "first_lift" (defArgs s_first_lift) (defBody s_first_lift) (defScope s_first_lift) .none kV_first_lift dc_first_lift pm_first_lift an_first_lift cd_first_lift ct_first_lift), sl_first_lift⟩)
    (c_first_lift : PySem.W.codeIn K cd_first_lift "first_lift" = true)
    (k_first_lift : PySem.W.keepIn K (.ref f_first_lift) = true)
    (a_free_at_last : PySem.W.nsIn K mainGlobals "free_at_last" = some (some (.ref f_free_at_last)))
    (l_free_at_last : K.lookup f_free_at_last = some ⟨oc_free_at_last, od_free_at_last, .func (PySem.W.fnOf "free_at_last" "free_at_last" (defArgs s_free_at_last) (defBody s_free_at_last) (defScope s_free_at_last) .none kV_free_at_last dc_free_at_last pm_free_at_last an_free_at_last cd_free_at_last ct_free_at_last), sl_free_at_last⟩)
    (c_free_at_last : PySem.W.codeIn K cd_free_at_last "free_at_last" = true)
    (k_free_at_last : PySem.W.keepIn K (.ref f_free_at_last) = true)
    (a_job_from : PySem.W.nsIn K mainGlobals "job_from" = some (some (.ref f_job_from)))
    (l_job_from : K.lookup f_job_from = some ⟨oc_job_from, od_job_from, .func (PySem.W.fnOf "job_from" "job_from" (defArgs s_job_from) (defBody s_job_from) (defScope s_job_from) .none kV_job_from dc_job_from pm_job_from an_job_from cd_job_from ct_job_from), sl_job_from⟩)
    (c_job_from : PySem.W.codeIn K cd_job_from "job_from" = true)
    (k_job_from : PySem.W.keepIn K (.ref f_job_from) = true)
    (a_mould_is_used : PySem.W.nsIn K mainGlobals "mould_is_used" = some (some (.ref f_mould_is_used)))
    (l_mould_is_used : K.lookup f_mould_is_used = some ⟨oc_mould_is_used, od_mould_is_used, .func (PySem.W.fnOf "mould_is_used" "mould_is_used" (defArgs s_mould_is_used) (defBody s_mould_is_used) (defScope s_mould_is_used) .none kV_mould_is_used dc_mould_is_used pm_mould_is_used an_mould_is_used cd_mould_is_used ct_mould_is_used), sl_mould_is_used⟩)
    (c_mould_is_used : PySem.W.codeIn K cd_mould_is_used "mould_is_used" = true)
    (k_mould_is_used : PySem.W.keepIn K (.ref f_mould_is_used) = true)
    (a_has_mould : PySem.W.nsIn K mainGlobals "has_mould" = some (some (.ref f_has_mould)))
    (l_has_mould : K.lookup f_has_mould = some ⟨oc_has_mould, od_has_mould, .func (PySem.W.fnOf "has_mould" "has_mould" (defArgs s_has_mould) (defBody s_has_mould) (defScope s_has_mould) .none kV_has_mould dc_has_mould pm_has_mould an_has_mould cd_has_mould ct_has_mould), sl_has_mould⟩)
    (c_has_mould : PySem.W.codeIn K cd_has_mould "has_mould" = true)
    (k_has_mould : PySem.W.keepIn K (.ref f_has_mould) = true)
    (a_best_job : PySem.W.nsIn K mainGlobals "best_job" = some (some (.ref f_best_job)))
    (l_best_job : K.lookup f_best_job = some ⟨oc_best_job, od_best_job, .func (PySem.W.fnOf "best_job" "best_job" (defArgs s_best_job) (defBody s_best_job) (defScope s_best_job) .none kV_best_job dc_best_job pm_best_job an_best_job cd_best_job ct_best_job), sl_best_job⟩)
    (c_best_job : PySem.W.codeIn K cd_best_job "best_job" = true)
    (k_best_job : PySem.W.keepIn K (.ref f_best_job) = true)
    (a_last_out : PySem.W.nsIn K mainGlobals "last_out" = some (some (.ref f_last_out)))
    (l_last_out : K.lookup f_last_out = some ⟨oc_last_out, od_last_out, .func (PySem.W.fnOf "last_out" "last_out" (defArgs s_last_out) (defBody s_last_out) (defScope s_last_out) .none kV_last_out dc_last_out pm_last_out an_last_out cd_last_out ct_last_out), sl_last_out⟩)
    (c_last_out : PySem.W.codeIn K cd_last_out "last_out" = true)
    (k_last_out : PySem.W.keepIn K (.ref f_last_out) = true)
    (a_end_of_order : PySem.W.nsIn K mainGlobals "end_of_order" = some (some (.ref f_end_of_order)))
    (l_end_of_order : K.lookup f_end_of_order = some ⟨oc_end_of_order, od_end_of_order, .func (PySem.W.fnOf "end_of_order" "end_of_order" (defArgs s_end_of_order) (defBody s_end_of_order) (defScope s_end_of_order) .none kV_end_of_order dc_end_of_order pm_end_of_order an_end_of_order cd_end_of_order ct_end_of_order), sl_end_of_order⟩)
    (c_end_of_order : PySem.W.codeIn K cd_end_of_order "end_of_order" = true)
    (k_end_of_order : PySem.W.keepIn K (.ref f_end_of_order) = true)
    (a_best_order : PySem.W.nsIn K mainGlobals "best_order" = some (some (.ref f_best_order)))
    (l_best_order : K.lookup f_best_order = some ⟨oc_best_order, od_best_order, .func (PySem.W.fnOf "best_order" "best_order" (defArgs s_best_order) (defBody s_best_order) (defScope s_best_order) .none kV_best_order dc_best_order pm_best_order an_best_order cd_best_order ct_best_order), sl_best_order⟩)
    (c_best_order : PySem.W.codeIn K cd_best_order "best_order" = true)
    (k_best_order : PySem.W.keepIn K (.ref f_best_order) = true)
    (a_better_order : PySem.W.nsIn K mainGlobals "better_order" = some (some (.ref f_better_order)))
    (l_better_order : K.lookup f_better_order = some ⟨oc_better_order, od_better_order, .func (PySem.W.fnOf "better_order" "better_order" (defArgs s_better_order) (defBody s_better_order) (defScope s_better_order) .none kV_better_order dc_better_order pm_better_order an_better_order cd_better_order ct_better_order), sl_better_order⟩)
    (c_better_order : PySem.W.codeIn K cd_better_order "better_order" = true)
    (k_better_order : PySem.W.keepIn K (.ref f_better_order) = true)
    (a_tell_over : PySem.W.nsIn K mainGlobals "tell_over" = some (some (.ref f_tell_over)))
    (l_tell_over : K.lookup f_tell_over = some ⟨oc_tell_over, od_tell_over, .func (PySem.W.fnOf "tell_over" "tell_over" (defArgs s_tell_over) (defBody s_tell_over) (defScope s_tell_over) .none kV_tell_over dc_tell_over pm_tell_over an_tell_over cd_tell_over ct_tell_over), sl_tell_over⟩)
    (c_tell_over : PySem.W.codeIn K cd_tell_over "tell_over" = true)
    (k_tell_over : PySem.W.keepIn K (.ref f_tell_over) = true)
    (a_tell_crane : PySem.W.nsIn K mainGlobals "tell_crane" = some (some (.ref f_tell_crane)))
    (l_tell_crane : K.lookup f_tell_crane = some ⟨oc_tell_crane, od_tell_crane, .func (PySem.W.fnOf "tell_crane" "tell_crane" (defArgs s_tell_crane) (defBody s_tell_crane) (defScope s_tell_crane) .none kV_tell_crane dc_tell_crane pm_tell_crane an_tell_crane cd_tell_crane ct_tell_crane), sl_tell_crane⟩)
    (c_tell_crane : PySem.W.codeIn K cd_tell_crane "tell_crane" = true)
    (k_tell_crane : PySem.W.keepIn K (.ref f_tell_crane) = true)
    (a_part_of_job : PySem.W.nsIn K mainGlobals "part_of_job" = some (some (.ref f_part_of_job)))
    (l_part_of_job : K.lookup f_part_of_job = some ⟨oc_part_of_job, od_part_of_job, .func (PySem.W.fnOf "part_of_job" "part_of_job" (defArgs s_part_of_job) (defBody s_part_of_job) (defScope s_part_of_job) .none kV_part_of_job dc_part_of_job pm_part_of_job an_part_of_job cd_part_of_job ct_part_of_job), sl_part_of_job⟩)
    (c_part_of_job : PySem.W.codeIn K cd_part_of_job "part_of_job" = true)
    (k_part_of_job : PySem.W.keepIn K (.ref f_part_of_job) = true)
    (a_tell_inside : PySem.W.nsIn K mainGlobals "tell_inside" = some (some (.ref f_tell_inside)))
    (l_tell_inside : K.lookup f_tell_inside = some ⟨oc_tell_inside, od_tell_inside, .func (PySem.W.fnOf "tell_inside" "tell_inside" (defArgs s_tell_inside) (defBody s_tell_inside) (defScope s_tell_inside) .none kV_tell_inside dc_tell_inside pm_tell_inside an_tell_inside cd_tell_inside ct_tell_inside), sl_tell_inside⟩)
    (c_tell_inside : PySem.W.codeIn K cd_tell_inside "tell_inside" = true)
    (k_tell_inside : PySem.W.keepIn K (.ref f_tell_inside) = true)
    (a_tell_free_at : PySem.W.nsIn K mainGlobals "tell_free_at" = some (some (.ref f_tell_free_at)))
    (l_tell_free_at : K.lookup f_tell_free_at = some ⟨oc_tell_free_at, od_tell_free_at, .func (PySem.W.fnOf "tell_free_at" "tell_free_at" (defArgs s_tell_free_at) (defBody s_tell_free_at) (defScope s_tell_free_at) .none kV_tell_free_at dc_tell_free_at pm_tell_free_at an_tell_free_at cd_tell_free_at ct_tell_free_at), sl_tell_free_at⟩)
    (c_tell_free_at : PySem.W.codeIn K cd_tell_free_at "tell_free_at" = true)
    (k_tell_free_at : PySem.W.keepIn K (.ref f_tell_free_at) = true)
    (a_tell_lifts : PySem.W.nsIn K mainGlobals "tell_lifts" = some (some (.ref f_tell_lifts)))
    (l_tell_lifts : K.lookup f_tell_lifts = some ⟨oc_tell_lifts, od_tell_lifts, .func (PySem.W.fnOf "tell_lifts" "tell_lifts" (defArgs s_tell_lifts) (defBody s_tell_lifts) (defScope s_tell_lifts) .none kV_tell_lifts dc_tell_lifts pm_tell_lifts an_tell_lifts cd_tell_lifts ct_tell_lifts), sl_tell_lifts⟩)
    (c_tell_lifts : PySem.W.codeIn K cd_tell_lifts "tell_lifts" = true)
    (k_tell_lifts : PySem.W.keepIn K (.ref f_tell_lifts) = true)
    (a_count_used : PySem.W.nsIn K mainGlobals "count_used" = some (some (.ref f_count_used)))
    (l_count_used : K.lookup f_count_used = some ⟨oc_count_used, od_count_used, .func (PySem.W.fnOf "count_used" "count_used" (defArgs s_count_used) (defBody s_count_used) (defScope s_count_used) .none kV_count_used dc_count_used pm_count_used an_count_used cd_count_used ct_count_used), sl_count_used⟩)
    (c_count_used : PySem.W.codeIn K cd_count_used "count_used" = true)
    (k_count_used : PySem.W.keepIn K (.ref f_count_used) = true)
    (a_tell_idle : PySem.W.nsIn K mainGlobals "tell_idle" = some (some (.ref f_tell_idle)))
    (l_tell_idle : K.lookup f_tell_idle = some ⟨oc_tell_idle, od_tell_idle, .func (PySem.W.fnOf "tell_idle" "tell_idle" (defArgs s_tell_idle) (defBody s_tell_idle) (defScope s_tell_idle) .none kV_tell_idle dc_tell_idle pm_tell_idle an_tell_idle cd_tell_idle ct_tell_idle), sl_tell_idle⟩)
    (c_tell_idle : PySem.W.codeIn K cd_tell_idle "tell_idle" = true)
    (k_tell_idle : PySem.W.keepIn K (.ref f_tell_idle) = true)
    (a_tell_job : PySem.W.nsIn K mainGlobals "tell_job" = some (some (.ref f_tell_job)))
    (l_tell_job : K.lookup f_tell_job = some ⟨oc_tell_job, od_tell_job, .func (PySem.W.fnOf "tell_job" "tell_job" (defArgs s_tell_job) (defBody s_tell_job) (defScope s_tell_job) .none kV_tell_job dc_tell_job pm_tell_job an_tell_job cd_tell_job ct_tell_job), sl_tell_job⟩)
    (c_tell_job : PySem.W.codeIn K cd_tell_job "tell_job" = true)
    (k_tell_job : PySem.W.keepIn K (.ref f_tell_job) = true)
    (a_tell_waiting : PySem.W.nsIn K mainGlobals "tell_waiting" = some (some (.ref f_tell_waiting)))
    (l_tell_waiting : K.lookup f_tell_waiting = some ⟨oc_tell_waiting, od_tell_waiting, .func (PySem.W.fnOf "tell_waiting" "tell_waiting" (defArgs s_tell_waiting) (defBody s_tell_waiting) (defScope s_tell_waiting) .none kV_tell_waiting dc_tell_waiting pm_tell_waiting an_tell_waiting cd_tell_waiting ct_tell_waiting), sl_tell_waiting⟩)
    (c_tell_waiting : PySem.W.codeIn K cd_tell_waiting "tell_waiting" = true)
    (k_tell_waiting : PySem.W.keepIn K (.ref f_tell_waiting) = true)
    (a_tell_state : PySem.W.nsIn K mainGlobals "tell_state" = some (some (.ref f_tell_state)))
    (l_tell_state : K.lookup f_tell_state = some ⟨oc_tell_state, od_tell_state, .func (PySem.W.fnOf "tell_state" "tell_state" (defArgs s_tell_state) (defBody s_tell_state) (defScope s_tell_state) .none kV_tell_state dc_tell_state pm_tell_state an_tell_state cd_tell_state ct_tell_state), sl_tell_state⟩)
    (c_tell_state : PySem.W.codeIn K cd_tell_state "tell_state" = true)
    (k_tell_state : PySem.W.keepIn K (.ref f_tell_state) = true)
    (a_start_anew : PySem.W.nsIn K mainGlobals "start_anew" = some (some (.ref f_start_anew)))
    (l_start_anew : K.lookup f_start_anew = some ⟨oc_start_anew, od_start_anew, .func (PySem.W.fnOf "start_anew" "start_anew" (defArgs s_start_anew) (defBody s_start_anew) (defScope s_start_anew) .none kV_start_anew dc_start_anew pm_start_anew an_start_anew cd_start_anew ct_start_anew), sl_start_anew⟩)
    (c_start_anew : PySem.W.codeIn K cd_start_anew "start_anew" = true)
    (k_start_anew : PySem.W.keepIn K (.ref f_start_anew) = true)
    (a_add_mould : PySem.W.nsIn K mainGlobals "add_mould" = some (some (.ref f_add_mould)))
    (l_add_mould : K.lookup f_add_mould = some ⟨oc_add_mould, od_add_mould, .func (PySem.W.fnOf "add_mould" "add_mould" (defArgs s_add_mould) (defBody s_add_mould) (defScope s_add_mould) .none kV_add_mould dc_add_mould pm_add_mould an_add_mould cd_add_mould ct_add_mould), sl_add_mould⟩)
    (c_add_mould : PySem.W.codeIn K cd_add_mould "add_mould" = true)
    (k_add_mould : PySem.W.keepIn K (.ref f_add_mould) = true)
    (a_add_blade : PySem.W.nsIn K mainGlobals "add_blade" = some (some (.ref f_add_blade)))
    (l_add_blade : K.lookup f_add_blade = some ⟨oc_add_blade, od_add_blade, .func (PySem.W.fnOf "add_blade" "add_blade" (defArgs s_add_blade) (defBody s_add_blade) (defScope s_add_blade) .none kV_add_blade dc_add_blade pm_add_blade an_add_blade cd_add_blade ct_add_blade), sl_add_blade⟩)
    (c_add_blade : PySem.W.codeIn K cd_add_blade "add_blade" = true)
    (k_add_blade : PySem.W.keepIn K (.ref f_add_blade) = true)
    (a_drop_blade : PySem.W.nsIn K mainGlobals "drop_blade" = some (some (.ref f_drop_blade)))
    (l_drop_blade : K.lookup f_drop_blade = some ⟨oc_drop_blade, od_drop_blade, .func (PySem.W.fnOf "drop_blade" "drop_blade" (defArgs s_drop_blade) (defBody s_drop_blade) (defScope s_drop_blade) .none kV_drop_blade dc_drop_blade pm_drop_blade an_drop_blade cd_drop_blade ct_drop_blade), sl_drop_blade⟩)
    (c_drop_blade : PySem.W.codeIn K cd_drop_blade "drop_blade" = true)
    (k_drop_blade : PySem.W.keepIn K (.ref f_drop_blade) = true)
    (a_tell_best : PySem.W.nsIn K mainGlobals "tell_best" = some (some (.ref f_tell_best)))
    (l_tell_best : K.lookup f_tell_best = some ⟨oc_tell_best, od_tell_best, .func (PySem.W.fnOf "tell_best" "tell_best" (defArgs s_tell_best) (defBody s_tell_best) (defScope s_tell_best) .none kV_tell_best dc_tell_best pm_tell_best an_tell_best cd_tell_best ct_tell_best), sl_tell_best⟩)
    (c_tell_best : PySem.W.codeIn K cd_tell_best "tell_best" = true)
    (k_tell_best : PySem.W.keepIn K (.ref f_tell_best) = true)
    (a_put_into_best : PySem.W.nsIn K mainGlobals "put_into_best" = some (some (.ref f_put_into_best)))
    (l_put_into_best : K.lookup f_put_into_best = some ⟨oc_put_into_best, od_put_into_best, .func (PySem.W.fnOf "put_into_best" "put_into_best" (defArgs s_put_into_best) (defBody s_put_into_best) (defScope s_put_into_best) .none kV_put_into_best dc_put_into_best pm_put_into_best an_put_into_best cd_put_into_best ct_put_into_best), sl_put_into_best⟩)
    (c_put_into_best : PySem.W.codeIn K cd_put_into_best "put_into_best" = true)
    (k_put_into_best : PySem.W.keepIn K (.ref f_put_into_best) = true)
    (a_put_blade : PySem.W.nsIn K mainGlobals "put_blade" = some (some (.ref f_put_blade)))
    (l_put_blade : K.lookup f_put_blade = some ⟨oc_put_blade, od_put_blade, .func (PySem.W.fnOf "put_blade" "put_blade" (defArgs s_put_blade) (defBody s_put_blade) (defScope s_put_blade) .none kV_put_blade dc_put_blade pm_put_blade an_put_blade cd_put_blade ct_put_blade), sl_put_blade⟩)
    (c_put_blade : PySem.W.codeIn K cd_put_blade "put_blade" = true)
    (k_put_blade : PySem.W.keepIn K (.ref f_put_blade) = true)
    (a_put_blade_at : PySem.W.nsIn K mainGlobals "put_blade_at" = some (some (.ref f_put_blade_at)))
    (l_put_blade_at : K.lookup f_put_blade_at = some ⟨oc_put_blade_at, od_put_blade_at, .func (PySem.W.fnOf "put_blade_at" "put_blade_at" (defArgs s_put_blade_at) (defBody s_put_blade_at) (defScope s_put_blade_at) .none kV_put_blade_at dc_put_blade_at pm_put_blade_at an_put_blade_at cd_put_blade_at ct_put_blade_at), sl_put_blade_at⟩)
    (c_put_blade_at : PySem.W.codeIn K cd_put_blade_at "put_blade_at" = true)
    (k_put_blade_at : PySem.W.keepIn K (.ref f_put_blade_at) = true)
    (a_cancel_job : PySem.W.nsIn K mainGlobals "cancel_job" = some (some (.ref f_cancel_job)))
    (l_cancel_job : K.lookup f_cancel_job = some ⟨oc_cancel_job, od_cancel_job, .func (PySem.W.fnOf "cancel_job" "cancel_job" (defArgs s_cancel_job) (defBody s_cancel_job) (defScope s_cancel_job) .none kV_cancel_job dc_cancel_job pm_cancel_job an_cancel_job cd_cancel_job ct_cancel_job), sl_cancel_job⟩)
    (c_cancel_job : PySem.W.codeIn K cd_cancel_job "cancel_job" = true)
    (k_cancel_job : PySem.W.keepIn K (.ref f_cancel_job) = true)
    (a_pass_by : PySem.W.nsIn K mainGlobals "pass_by" = some (some (.ref f_pass_by)))
    (l_pass_by : K.lookup f_pass_by = some ⟨oc_pass_by, od_pass_by, .func (PySem.W.fnOf "pass_by" "pass_by" (defArgs s_pass_by) (defBody s_pass_by) (defScope s_pass_by) .none kV_pass_by dc_pass_by pm_pass_by an_pass_by cd_pass_by ct_pass_by), sl_pass_by⟩)
    (c_pass_by : PySem.W.codeIn K cd_pass_by "pass_by" = true)
    (k_pass_by : PySem.W.keepIn K (.ref f_pass_by) = true)
    (a_can_be_put : PySem.W.nsIn K mainGlobals "can_be_put" = some (some (.ref f_can_be_put)))
    (l_can_be_put : K.lookup f_can_be_put = some ⟨oc_can_be_put, od_can_be_put, .func (PySem.W.fnOf "can_be_put" "can_be_put" (defArgs s_can_be_put) (defBody s_can_be_put) (defScope s_can_be_put) .none kV_can_be_put dc_can_be_put pm_can_be_put an_can_be_put cd_can_be_put ct_can_be_put), sl_can_be_put⟩)
    (c_can_be_put : PySem.W.codeIn K cd_can_be_put "can_be_put" = true)
    (k_can_be_put : PySem.W.keepIn K (.ref f_can_be_put) = true)
    (a_tell_order : PySem.W.nsIn K mainGlobals "tell_order" = some (some (.ref f_tell_order)))
    (l_tell_order : K.lookup f_tell_order = some ⟨oc_tell_order, od_tell_order, .func (PySem.W.fnOf "tell_order" "tell_order" (defArgs s_tell_order) (defBody s_tell_order) (defScope s_tell_order) .none kV_tell_order dc_tell_order pm_tell_order an_tell_order cd_tell_order ct_tell_order), sl_tell_order⟩)
    (c_tell_order : PySem.W.codeIn K cd_tell_order "tell_order" = true)
    (k_tell_order : PySem.W.keepIn K (.ref f_tell_order) = true)
    (a_all_can_be_put : PySem.W.nsIn K mainGlobals "all_can_be_put" = some (some (.ref f_all_can_be_put)))
    (l_all_can_be_put : K.lookup f_all_can_be_put = some ⟨oc_all_can_be_put, od_all_can_be_put, .func (PySem.W.fnOf "all_can_be_put" "all_can_be_put" (defArgs s_all_can_be_put) (defBody s_all_can_be_put) (defScope s_all_can_be_put) .none kV_all_can_be_put dc_all_can_be_put pm_all_can_be_put an_all_can_be_put cd_all_can_be_put ct_all_can_be_put), sl_all_can_be_put⟩)
    (c_all_can_be_put : PySem.W.codeIn K cd_all_can_be_put "all_can_be_put" = true)
    (k_all_can_be_put : PySem.W.keepIn K (.ref f_all_can_be_put) = true)
    (a_tell_plan : PySem.W.nsIn K mainGlobals "tell_plan" = some (some (.ref f_tell_plan)))
    (l_tell_plan : K.lookup f_tell_plan = some ⟨oc_tell_plan, od_tell_plan, .func (PySem.W.fnOf "tell_plan" "tell_plan" (defArgs s_tell_plan) (defBody s_tell_plan) (defScope s_tell_plan) .none kV_tell_plan dc_tell_plan pm_tell_plan an_tell_plan cd_tell_plan ct_tell_plan), sl_tell_plan⟩)
    (c_tell_plan : PySem.W.codeIn K cd_tell_plan "tell_plan" = true)
    (k_tell_plan : PySem.W.keepIn K (.ref f_tell_plan) = true)
    (a_follow_plan : PySem.W.nsIn K mainGlobals "follow_plan" = some (some (.ref f_follow_plan)))
    (l_follow_plan : K.lookup f_follow_plan = some ⟨oc_follow_plan, od_follow_plan, .func (PySem.W.fnOf "follow_plan" "follow_plan" (defArgs s_follow_plan) (defBody s_follow_plan) (defScope s_follow_plan) .none kV_follow_plan dc_follow_plan pm_follow_plan an_follow_plan cd_follow_plan ct_follow_plan), sl_follow_plan⟩)
    (c_follow_plan : PySem.W.codeIn K cd_follow_plan "follow_plan" = true)
    (k_follow_plan : PySem.W.keepIn K (.ref f_follow_plan) = true)
    (a_count_given : PySem.W.nsIn K mainGlobals "count_given" = some (some (.ref f_count_given)))
    (l_count_given : K.lookup f_count_given = some ⟨oc_count_given, od_count_given, .func (PySem.W.fnOf "count_given" "count_given" (defArgs s_count_given) (defBody s_count_given) (defScope s_count_given) .none kV_count_given dc_count_given pm_count_given an_count_given cd_count_given ct_count_given), sl_count_given⟩)
    (c_count_given : PySem.W.codeIn K cd_count_given "count_given" = true)
    (k_count_given : PySem.W.keepIn K (.ref f_count_given) = true)
    (a_reply_to : PySem.W.nsIn K mainGlobals "reply_to" = some (some (.ref f_reply_to)))
    (l_reply_to : K.lookup f_reply_to = some ⟨oc_reply_to, od_reply_to, .func (PySem.W.fnOf "reply_to" "reply_to" (defArgs s_reply_to) (defBody s_reply_to) (defScope s_reply_to) .none kV_reply_to dc_reply_to pm_reply_to an_reply_to cd_reply_to ct_reply_to), sl_reply_to⟩)
    (c_reply_to : PySem.W.codeIn K cd_reply_to "reply_to" = true)
    (k_reply_to : PySem.W.keepIn K (.ref f_reply_to) = true)
    (a_answers : PySem.W.nsIn K mainGlobals "answers" = some (some (.ref f_answers)))
    (l_answers : K.lookup f_answers = some ⟨oc_answers, od_answers, .func (PySem.W.fnOf "answers" "answers" (defArgs s_answers) (defBody s_answers) (defScope s_answers) .none kV_answers dc_answers pm_answers an_answers cd_answers ct_answers), sl_answers⟩)
    (c_answers : PySem.W.codeIn K cd_answers "answers" = true)
    (k_answers : PySem.W.keepIn K (.ref f_answers) = true)
    (g_LONGEST_LIFT : PySem.W.nsIn K mainGlobals "LONGEST_LIFT" = some (some (.int 60 t_LONGEST_LIFT)))
    (g_LONGEST_CLEAN : PySem.W.nsIn K mainGlobals "LONGEST_CLEAN" = some (some (.int 60 t_LONGEST_CLEAN)))
    (g_HIGHEST_KIND : PySem.W.nsIn K mainGlobals "HIGHEST_KIND" = some (some (.int 3 t_HIGHEST_KIND)))
    (g_LONGEST_IN_MOULD : PySem.W.nsIn K mainGlobals "LONGEST_IN_MOULD" = some (some (.int 200 t_LONGEST_IN_MOULD)))
    (g_MOST_MOULDS : PySem.W.nsIn K mainGlobals "MOST_MOULDS" = some (some (.int 4 t_MOST_MOULDS)))
    (g_MOST_WAITING : PySem.W.nsIn K mainGlobals "MOST_WAITING" = some (some (.int 5 t_MOST_WAITING)))
    (g_MOST_JOBS : PySem.W.nsIn K mainGlobals "MOST_JOBS" = some (some (.int 12 t_MOST_JOBS)))
    (g_FARTHEST_AHEAD : PySem.W.nsIn K mainGlobals "FARTHEST_AHEAD" = some (some (.int 300 t_FARTHEST_AHEAD)))
    (g_LONGEST_PASS : PySem.W.nsIn K mainGlobals "LONGEST_PASS" = some (some (.int 1000 t_LONGEST_PASS)))
    (g_LAST_MINUTE : PySem.W.nsIn K mainGlobals "LAST_MINUTE" = some (some (.int 100000 t_LAST_MINUTE)))
    (g_NONE_SUCH : PySem.W.nsIn K mainGlobals "NONE_SUCH" = some (some (.int (-2) t_NONE_SUCH)))
    (g_NOT_STARTED : PySem.W.nsIn K mainGlobals "NOT_STARTED" = some (some (.int (-11) t_NOT_STARTED)))
    (g_BEGUN : PySem.W.nsIn K mainGlobals "BEGUN" = some (some (.int (-16) t_BEGUN)))
    (g_IN_USE : PySem.W.nsIn K mainGlobals "IN_USE" = some (some (.int (-17) t_IN_USE)))
    (g_OUT_OF_RANGE : PySem.W.nsIn K mainGlobals "OUT_OF_RANGE" = some (some (.int (-22) t_OUT_OF_RANGE)))
    (g_FULL : PySem.W.nsIn K mainGlobals "FULL" = some (some (.int (-28) t_FULL)))
    (g_NOT_POSSIBLE : PySem.W.nsIn K mainGlobals "NOT_POSSIBLE" = some (some (.int (-33) t_NOT_POSSIBLE)))
    (g_NOT_IN_USE : PySem.W.nsIn K mainGlobals "NOT_IN_USE" = some (some (.int (-33) t_NOT_IN_USE)))
    (g_NOT_READY : PySem.W.nsIn K mainGlobals "NOT_READY" = some (some (.int 0 t_NOT_READY)))
    (g_WAITS_FOR_CRANE : PySem.W.nsIn K mainGlobals "WAITS_FOR_CRANE" = some (some (.int 1 t_WAITS_FOR_CRANE)))
    (g_BEING_LIFTED : PySem.W.nsIn K mainGlobals "BEING_LIFTED" = some (some (.int 2 t_BEING_LIFTED)))
    (g_BEING_CLEANED : PySem.W.nsIn K mainGlobals "BEING_CLEANED" = some (some (.int 3 t_BEING_CLEANED)))
    (g_START : PySem.W.nsIn K mainGlobals "START" = some (some (.int 0 t_START)))
    (g_ORDER : PySem.W.nsIn K mainGlobals "ORDER" = some (some (.int 9 t_ORDER)))
    (aT_TELLINGS : PySem.W.nsIn K mainGlobals "TELLINGS" = some (some (.ref r_TELLINGS)))
    (lT_TELLINGS : K.lookup r_TELLINGS = some { cls := .type "tuple", data := .seq #[.ref f_tell_over, .ref f_tell_crane, .ref f_tell_inside, .ref f_tell_free_at, .ref f_tell_lifts, .ref f_tell_idle, .ref f_tell_job, .ref f_tell_waiting, .ref f_tell_state] sz_TELLINGS })
    (aT_REPLIES : PySem.W.nsIn K mainGlobals "REPLIES" = some (some (.ref r_REPLIES)))
    (lT_REPLIES : K.lookup r_REPLIES = some { cls := .type "tuple", data := .seq #[.ref f_start_anew, .ref f_add_mould, .ref f_add_blade, .ref f_drop_blade, .ref f_tell_best, .ref f_put_blade, .ref f_put_blade_at, .ref f_cancel_job, .ref f_pass_by, .ref f_tell_order, .ref f_tell_plan, .ref f_follow_plan] sz_REPLIES })
    (aT_GIVEN_COUNTS : PySem.W.nsIn K mainGlobals "GIVEN_COUNTS" = some (some (.ref r_GIVEN_COUNTS)))
    (lT_GIVEN_COUNTS : K.lookup r_GIVEN_COUNTS = some { cls := .type "tuple", data := .seq #[.int 2 tk_0, .int 1 tk_1, .int 2 tk_2, .int 1 tk_3, .int 1 tk_4, .int 1 tk_5, .int 3 tk_6, .int 1 tk_7, .int 1 tk_8, .int 0 tk_9, .int 0 tk_10, .int 0 tk_11, .int 0 tk_12, .int 1 tk_13, .int 2 tk_14, .int 1 tk_15, .int 1 tk_16, .int 1 tk_17, .int 1 tk_18, .int 0 tk_19, .int 0 tk_20] sz_GIVEN_COUNTS })
    (b_all : PySem.W.nsIn K mainGlobals "all" = some none)
    (b_enumerate : PySem.W.nsIn K mainGlobals "enumerate" = some none)
    (b_len : PySem.W.nsIn K mainGlobals "len" = some none)
    (b_list : PySem.W.nsIn K mainGlobals "list" = some none)
    (b_max : PySem.W.nsIn K mainGlobals "max" = some none)
    (b_min : PySem.W.nsIn K mainGlobals "min" = some none)
    (b_set : PySem.W.nsIn K mainGlobals "set" = some none)
    (b_sorted : PySem.W.nsIn K mainGlobals "sorted" = some none)
    (b_sum : PySem.W.nsIn K mainGlobals "sum" = some none) :
    ∃ fd : FuncData, (∀ (s : Shared) (us : List Value), us.length = (["calls"] : List Str).length → BindsTo s fd ⟨us, []⟩ ((["calls"] : List Str).zip us)) ∧ ∀ base : Heap, K.In base → base.Ns mainGlobals mg → FnOk P w K mg base CX0 20 fa fd ["calls"] (sp_answers K) := by
  have e : f_answers = fa := by
    have e := (PySem.W.mg_of X G a_answers).symm.trans hfa
    injection e with e
    injection e
  subst e
  let T : Tx K mg := {
    Blade := ⟨C_Blade, PySem.W.mg_of X G aC_Blade, ⟨pg_Blade, hd_Blade, po_Blade, sa_Blade⟩, mk_Blade, kc_Blade⟩
    n_Blade_kind := n_Blade_kind
    n_Blade_minutes := n_Blade_minutes
    Job := ⟨C_Job, PySem.W.mg_of X G aC_Job, ⟨pg_Job, hd_Job, po_Job, sa_Job⟩, mk_Job, kc_Job⟩
    n_Job_blade := n_Job_blade
    n_Job_mould := n_Job_mould
    n_Job_begin := n_Job_begin
    n_Job_ready := n_Job_ready
    n_Job_lifted := n_Job_lifted
    n_Job_out := n_Job_out
    n_Job_free := n_Job_free
    Works := ⟨C_Works, PySem.W.mg_of X G aC_Works, ⟨pg_Works, hd_Works, po_Works, sa_Works⟩, mk_Works, kc_Works⟩
    n_Works_started := n_Works_started
    n_Works_lift := n_Works_lift
    n_Works_clean := n_Works_clean
    n_Works_minute := n_Works_minute
    n_Works_moulds := n_Works_moulds
    n_Works_waiting := n_Works_waiting
    n_Works_jobs := n_Works_jobs
    n_Works_done := n_Works_done
    Blade_init := ⟨f_Blade_init, _, fun_mk (st := s_Blade_init) l_Blade_init c_Blade_init k_Blade_init, (fun_mk (st := s_Blade_init) l_Blade_init c_Blade_init k_Blade_init).binds fun _ _ _ _ _ _ us hl => match us, hl with | [_, _, _], _ => rfl, a_Blade_init, i_Blade_init⟩
    Job_init := ⟨f_Job_init, _, fun_mk (st := s_Job_init) l_Job_init c_Job_init k_Job_init, (fun_mk (st := s_Job_init) l_Job_init c_Job_init k_Job_init).binds fun _ _ _ _ _ _ us hl => match us, hl with | [_, _, _, _, _, _, _], _ => rfl, a_Job_init, i_Job_init⟩
    Works_init := ⟨f_Works_init, _, fun_mk (st := s_Works_init) l_Works_init c_Works_init k_Works_init, (fun_mk (st := s_Works_init) l_Works_init c_Works_init k_Works_init).binds fun _ _ _ _ _ _ us hl => match us, hl with | [_], _ => rfl, a_Works_init, i_Works_init⟩
    Works_make_empty := ⟨f_Works_make_empty, _, fun_mk (st := s_Works_make_empty) l_Works_make_empty c_Works_make_empty k_Works_make_empty, (fun_mk (st := s_Works_make_empty) l_Works_make_empty c_Works_make_empty k_Works_make_empty).binds fun _ _ _ _ _ _ us hl => match us, hl with | [_, _, _], _ => rfl, a_Works_make_empty, i_Works_make_empty⟩
    is_mould := ⟨f_is_mould, _, fun_mk (st := s_is_mould) l_is_mould c_is_mould k_is_mould, (fun_mk (st := s_is_mould) l_is_mould c_is_mould k_is_mould).binds fun _ _ _ _ _ _ us hl => match us, hl with | [_, _], _ => rfl, PySem.W.mg_of X G a_is_mould⟩
    all_jobs := ⟨f_all_jobs, _, fun_mk (st := s_all_jobs) l_all_jobs c_all_jobs k_all_jobs, (fun_mk (st := s_all_jobs) l_all_jobs c_all_jobs k_all_jobs).binds fun _ _ _ _ _ _ us hl => match us, hl with | [_], _ => rfl, PySem.W.mg_of X G a_all_jobs⟩
    least_free_number := ⟨f_least_free_number, _, fun_mk (st := s_least_free_number) l_least_free_number c_least_free_number k_least_free_number, (fun_mk (st := s_least_free_number) l_least_free_number c_least_free_number k_least_free_number).binds fun _ _ _ _ _ _ us hl => match us, hl with | [_], _ => rfl, PySem.W.mg_of X G a_least_free_number⟩
    add_waiting := ⟨f_add_waiting, _, fun_mk (st := s_add_waiting) l_add_waiting c_add_waiting k_add_waiting, (fun_mk (st := s_add_waiting) l_add_waiting c_add_waiting k_add_waiting).binds fun _ _ _ _ _ _ us hl => match us, hl with | [_, _], _ => rfl, PySem.W.mg_of X G a_add_waiting⟩
    make_job := ⟨f_make_job, _, fun_mk (st := s_make_job) l_make_job c_make_job k_make_job, (fun_mk (st := s_make_job) l_make_job c_make_job k_make_job).binds fun _ _ _ _ _ _ us hl => match us, hl with | [_, _, _], _ => rfl, PySem.W.mg_of X G a_make_job⟩
    make_waiting := ⟨f_make_waiting, _, fun_mk (st := s_make_waiting) l_make_waiting c_make_waiting k_make_waiting, (fun_mk (st := s_make_waiting) l_make_waiting c_make_waiting k_make_waiting).binds fun _ _ _ _ _ _ us hl => match us, hl with | [_, _], _ => rfl, PySem.W.mg_of X G a_make_waiting⟩
    first_lift := ⟨f_first_lift, _, fun_mk (st := s_first_lift) l_first_lift c_first_lift k_first_lift, (fun_mk (st := s_first_lift) l_first_lift c_first_lift k_first_lift).binds fun _ _ _ _ _ _ us hl => match us, hl with | [_, _, _], _ => rfl, PySem.W.mg_of X G a_first_lift⟩
    free_at_last := ⟨f_free_at_last, _, fun_mk (st := s_free_at_last) l_free_at_last c_free_at_last k_free_at_last, (fun_mk (st := s_free_at_last) l_free_at_last c_free_at_last k_free_at_last).binds fun _ _ _ _ _ _ us hl => match us, hl with | [_, _, _], _ => rfl, PySem.W.mg_of X G a_free_at_last⟩
    job_from := ⟨f_job_from, _, fun_mk (st := s_job_from) l_job_from c_job_from k_job_from, (fun_mk (st := s_job_from) l_job_from c_job_from k_job_from).binds fun _ _ _ _ _ _ us hl => match us, hl with | [_, _, _, _, _], _ => rfl, PySem.W.mg_of X G a_job_from⟩
    mould_is_used := ⟨f_mould_is_used, _, fun_mk (st := s_mould_is_used) l_mould_is_used c_mould_is_used k_mould_is_used, (fun_mk (st := s_mould_is_used) l_mould_is_used c_mould_is_used k_mould_is_used).binds fun _ _ _ _ _ _ us hl => match us, hl with | [_, _], _ => rfl, PySem.W.mg_of X G a_mould_is_used⟩
    has_mould := ⟨f_has_mould, _, fun_mk (st := s_has_mould) l_has_mould c_has_mould k_has_mould, (fun_mk (st := s_has_mould) l_has_mould c_has_mould k_has_mould).binds fun _ _ _ _ _ _ us hl => match us, hl with | [_, _], _ => rfl, PySem.W.mg_of X G a_has_mould⟩
    best_job := ⟨f_best_job, _, fun_mk (st := s_best_job) l_best_job c_best_job k_best_job, (fun_mk (st := s_best_job) l_best_job c_best_job k_best_job).binds fun _ _ _ _ _ _ us hl => match us, hl with | [_, _, _], _ => rfl, PySem.W.mg_of X G a_best_job⟩
    last_out := ⟨f_last_out, _, fun_mk (st := s_last_out) l_last_out c_last_out k_last_out, (fun_mk (st := s_last_out) l_last_out c_last_out k_last_out).binds fun _ _ _ _ _ _ us hl => match us, hl with | [_, _], _ => rfl, PySem.W.mg_of X G a_last_out⟩
    end_of_order := ⟨f_end_of_order, _, fun_mk (st := s_end_of_order) l_end_of_order c_end_of_order k_end_of_order, (fun_mk (st := s_end_of_order) l_end_of_order c_end_of_order k_end_of_order).binds fun _ _ _ _ _ _ us hl => match us, hl with | [_, _], _ => rfl, PySem.W.mg_of X G a_end_of_order⟩
    best_order := ⟨f_best_order, _, fun_mk (st := s_best_order) l_best_order c_best_order k_best_order, (fun_mk (st := s_best_order) l_best_order c_best_order k_best_order).binds fun _ _ _ _ _ _ us hl => match us, hl with | [_], _ => rfl, PySem.W.mg_of X G a_best_order⟩
    better_order := ⟨f_better_order, _, fun_mk (st := s_better_order) l_better_order c_better_order k_better_order, (fun_mk (st := s_better_order) l_better_order c_better_order k_better_order).binds fun _ _ _ _ _ _ us hl => match us, hl with | [_, _, _, _, _], _ => rfl, PySem.W.mg_of X G a_better_order⟩
    tell_over := ⟨f_tell_over, _, fun_mk (st := s_tell_over) l_tell_over c_tell_over k_tell_over, (fun_mk (st := s_tell_over) l_tell_over c_tell_over k_tell_over).binds fun _ _ _ _ _ _ us hl => match us, hl with | [_, _], _ => rfl, PySem.W.mg_of X G a_tell_over⟩
    tell_crane := ⟨f_tell_crane, _, fun_mk (st := s_tell_crane) l_tell_crane c_tell_crane k_tell_crane, (fun_mk (st := s_tell_crane) l_tell_crane c_tell_crane k_tell_crane).binds fun _ _ _ _ _ _ us hl => match us, hl with | [_, _], _ => rfl, PySem.W.mg_of X G a_tell_crane⟩
    part_of_job := ⟨f_part_of_job, _, fun_mk (st := s_part_of_job) l_part_of_job c_part_of_job k_part_of_job, (fun_mk (st := s_part_of_job) l_part_of_job c_part_of_job k_part_of_job).binds fun _ _ _ _ _ _ us hl => match us, hl with | [_, _], _ => rfl, PySem.W.mg_of X G a_part_of_job⟩
    tell_inside := ⟨f_tell_inside, _, fun_mk (st := s_tell_inside) l_tell_inside c_tell_inside k_tell_inside, (fun_mk (st := s_tell_inside) l_tell_inside c_tell_inside k_tell_inside).binds fun _ _ _ _ _ _ us hl => match us, hl with | [_, _], _ => rfl, PySem.W.mg_of X G a_tell_inside⟩
    tell_free_at := ⟨f_tell_free_at, _, fun_mk (st := s_tell_free_at) l_tell_free_at c_tell_free_at k_tell_free_at, (fun_mk (st := s_tell_free_at) l_tell_free_at c_tell_free_at k_tell_free_at).binds fun _ _ _ _ _ _ us hl => match us, hl with | [_, _], _ => rfl, PySem.W.mg_of X G a_tell_free_at⟩
    tell_lifts := ⟨f_tell_lifts, _, fun_mk (st := s_tell_lifts) l_tell_lifts c_tell_lifts k_tell_lifts, (fun_mk (st := s_tell_lifts) l_tell_lifts c_tell_lifts k_tell_lifts).binds fun _ _ _ _ _ _ us hl => match us, hl with | [_, _], _ => rfl, PySem.W.mg_of X G a_tell_lifts⟩
    count_used := ⟨f_count_used, _, fun_mk (st := s_count_used) l_count_used c_count_used k_count_used, (fun_mk (st := s_count_used) l_count_used c_count_used k_count_used).binds fun _ _ _ _ _ _ us hl => match us, hl with | [_, _, _, _], _ => rfl, PySem.W.mg_of X G a_count_used⟩
    tell_idle := ⟨f_tell_idle, _, fun_mk (st := s_tell_idle) l_tell_idle c_tell_idle k_tell_idle, (fun_mk (st := s_tell_idle) l_tell_idle c_tell_idle k_tell_idle).binds fun _ _ _ _ _ _ us hl => match us, hl with | [_, _], _ => rfl, PySem.W.mg_of X G a_tell_idle⟩
    tell_job := ⟨f_tell_job, _, fun_mk (st := s_tell_job) l_tell_job c_tell_job k_tell_job, (fun_mk (st := s_tell_job) l_tell_job c_tell_job k_tell_job).binds fun _ _ _ _ _ _ us hl => match us, hl with | [_, _], _ => rfl, PySem.W.mg_of X G a_tell_job⟩
    tell_waiting := ⟨f_tell_waiting, _, fun_mk (st := s_tell_waiting) l_tell_waiting c_tell_waiting k_tell_waiting, (fun_mk (st := s_tell_waiting) l_tell_waiting c_tell_waiting k_tell_waiting).binds fun _ _ _ _ _ _ us hl => match us, hl with | [_, _], _ => rfl, PySem.W.mg_of X G a_tell_waiting⟩
    tell_state := ⟨f_tell_state, _, fun_mk (st := s_tell_state) l_tell_state c_tell_state k_tell_state, (fun_mk (st := s_tell_state) l_tell_state c_tell_state k_tell_state).binds fun _ _ _ _ _ _ us hl => match us, hl with | [_, _], _ => rfl, PySem.W.mg_of X G a_tell_state⟩
    start_anew := ⟨f_start_anew, _, fun_mk (st := s_start_anew) l_start_anew c_start_anew k_start_anew, (fun_mk (st := s_start_anew) l_start_anew c_start_anew k_start_anew).binds fun _ _ _ _ _ _ us hl => match us, hl with | [_, _], _ => rfl, PySem.W.mg_of X G a_start_anew⟩
    add_mould := ⟨f_add_mould, _, fun_mk (st := s_add_mould) l_add_mould c_add_mould k_add_mould, (fun_mk (st := s_add_mould) l_add_mould c_add_mould k_add_mould).binds fun _ _ _ _ _ _ us hl => match us, hl with | [_, _], _ => rfl, PySem.W.mg_of X G a_add_mould⟩
    add_blade := ⟨f_add_blade, _, fun_mk (st := s_add_blade) l_add_blade c_add_blade k_add_blade, (fun_mk (st := s_add_blade) l_add_blade c_add_blade k_add_blade).binds fun _ _ _ _ _ _ us hl => match us, hl with | [_, _], _ => rfl, PySem.W.mg_of X G a_add_blade⟩
    drop_blade := ⟨f_drop_blade, _, fun_mk (st := s_drop_blade) l_drop_blade c_drop_blade k_drop_blade, (fun_mk (st := s_drop_blade) l_drop_blade c_drop_blade k_drop_blade).binds fun _ _ _ _ _ _ us hl => match us, hl with | [_, _], _ => rfl, PySem.W.mg_of X G a_drop_blade⟩
    tell_best := ⟨f_tell_best, _, fun_mk (st := s_tell_best) l_tell_best c_tell_best k_tell_best, (fun_mk (st := s_tell_best) l_tell_best c_tell_best k_tell_best).binds fun _ _ _ _ _ _ us hl => match us, hl with | [_, _], _ => rfl, PySem.W.mg_of X G a_tell_best⟩
    put_into_best := ⟨f_put_into_best, _, fun_mk (st := s_put_into_best) l_put_into_best c_put_into_best k_put_into_best, (fun_mk (st := s_put_into_best) l_put_into_best c_put_into_best k_put_into_best).binds fun _ _ _ _ _ _ us hl => match us, hl with | [_, _], _ => rfl, PySem.W.mg_of X G a_put_into_best⟩
    put_blade := ⟨f_put_blade, _, fun_mk (st := s_put_blade) l_put_blade c_put_blade k_put_blade, (fun_mk (st := s_put_blade) l_put_blade c_put_blade k_put_blade).binds fun _ _ _ _ _ _ us hl => match us, hl with | [_, _], _ => rfl, PySem.W.mg_of X G a_put_blade⟩
    put_blade_at := ⟨f_put_blade_at, _, fun_mk (st := s_put_blade_at) l_put_blade_at c_put_blade_at k_put_blade_at, (fun_mk (st := s_put_blade_at) l_put_blade_at c_put_blade_at k_put_blade_at).binds fun _ _ _ _ _ _ us hl => match us, hl with | [_, _], _ => rfl, PySem.W.mg_of X G a_put_blade_at⟩
    cancel_job := ⟨f_cancel_job, _, fun_mk (st := s_cancel_job) l_cancel_job c_cancel_job k_cancel_job, (fun_mk (st := s_cancel_job) l_cancel_job c_cancel_job k_cancel_job).binds fun _ _ _ _ _ _ us hl => match us, hl with | [_, _], _ => rfl, PySem.W.mg_of X G a_cancel_job⟩
    pass_by := ⟨f_pass_by, _, fun_mk (st := s_pass_by) l_pass_by c_pass_by k_pass_by, (fun_mk (st := s_pass_by) l_pass_by c_pass_by k_pass_by).binds fun _ _ _ _ _ _ us hl => match us, hl with | [_, _], _ => rfl, PySem.W.mg_of X G a_pass_by⟩
    can_be_put := ⟨f_can_be_put, _, fun_mk (st := s_can_be_put) l_can_be_put c_can_be_put k_can_be_put, (fun_mk (st := s_can_be_put) l_can_be_put c_can_be_put k_can_be_put).binds fun _ _ _ _ _ _ us hl => match us, hl with | [_, _], _ => rfl, PySem.W.mg_of X G a_can_be_put⟩
    tell_order := ⟨f_tell_order, _, fun_mk (st := s_tell_order) l_tell_order c_tell_order k_tell_order, (fun_mk (st := s_tell_order) l_tell_order c_tell_order k_tell_order).binds fun _ _ _ _ _ _ us hl => match us, hl with | [_, _], _ => rfl, PySem.W.mg_of X G a_tell_order⟩
    all_can_be_put := ⟨f_all_can_be_put, _, fun_mk (st := s_all_can_be_put) l_all_can_be_put c_all_can_be_put k_all_can_be_put, (fun_mk (st := s_all_can_be_put) l_all_can_be_put c_all_can_be_put k_all_can_be_put).binds fun _ _ _ _ _ _ us hl => match us, hl with | [_], _ => rfl, PySem.W.mg_of X G a_all_can_be_put⟩
    tell_plan := ⟨f_tell_plan, _, fun_mk (st := s_tell_plan) l_tell_plan c_tell_plan k_tell_plan, (fun_mk (st := s_tell_plan) l_tell_plan c_tell_plan k_tell_plan).binds fun _ _ _ _ _ _ us hl => match us, hl with | [_, _], _ => rfl, PySem.W.mg_of X G a_tell_plan⟩
    follow_plan := ⟨f_follow_plan, _, fun_mk (st := s_follow_plan) l_follow_plan c_follow_plan k_follow_plan, (fun_mk (st := s_follow_plan) l_follow_plan c_follow_plan k_follow_plan).binds fun _ _ _ _ _ _ us hl => match us, hl with | [_, _], _ => rfl, PySem.W.mg_of X G a_follow_plan⟩
    count_given := ⟨f_count_given, _, fun_mk (st := s_count_given) l_count_given c_count_given k_count_given, (fun_mk (st := s_count_given) l_count_given c_count_given k_count_given).binds fun _ _ _ _ _ _ us hl => match us, hl with | [_, _], _ => rfl, PySem.W.mg_of X G a_count_given⟩
    reply_to := ⟨f_reply_to, _, fun_mk (st := s_reply_to) l_reply_to c_reply_to k_reply_to, (fun_mk (st := s_reply_to) l_reply_to c_reply_to k_reply_to).binds fun _ _ _ _ _ _ us hl => match us, hl with | [_, _, _], _ => rfl, PySem.W.mg_of X G a_reply_to⟩
    answers := ⟨f_answers, _, fun_mk (st := s_answers) l_answers c_answers k_answers, (fun_mk (st := s_answers) l_answers c_answers k_answers).binds fun _ _ _ _ _ _ us hl => match us, hl with | [_], _ => rfl, PySem.W.mg_of X G a_answers⟩
    g_LONGEST_LIFT := ⟨t_LONGEST_LIFT, PySem.W.mg_of X G g_LONGEST_LIFT⟩
    g_LONGEST_CLEAN := ⟨t_LONGEST_CLEAN, PySem.W.mg_of X G g_LONGEST_CLEAN⟩
    g_HIGHEST_KIND := ⟨t_HIGHEST_KIND, PySem.W.mg_of X G g_HIGHEST_KIND⟩
    g_LONGEST_IN_MOULD := ⟨t_LONGEST_IN_MOULD, PySem.W.mg_of X G g_LONGEST_IN_MOULD⟩
    g_MOST_MOULDS := ⟨t_MOST_MOULDS, PySem.W.mg_of X G g_MOST_MOULDS⟩
    g_MOST_WAITING := ⟨t_MOST_WAITING, PySem.W.mg_of X G g_MOST_WAITING⟩
    g_MOST_JOBS := ⟨t_MOST_JOBS, PySem.W.mg_of X G g_MOST_JOBS⟩
    g_FARTHEST_AHEAD := ⟨t_FARTHEST_AHEAD, PySem.W.mg_of X G g_FARTHEST_AHEAD⟩
    g_LONGEST_PASS := ⟨t_LONGEST_PASS, PySem.W.mg_of X G g_LONGEST_PASS⟩
    g_LAST_MINUTE := ⟨t_LAST_MINUTE, PySem.W.mg_of X G g_LAST_MINUTE⟩
    g_NONE_SUCH := ⟨t_NONE_SUCH, PySem.W.mg_of X G g_NONE_SUCH⟩
    g_NOT_STARTED := ⟨t_NOT_STARTED, PySem.W.mg_of X G g_NOT_STARTED⟩
    g_BEGUN := ⟨t_BEGUN, PySem.W.mg_of X G g_BEGUN⟩
    g_IN_USE := ⟨t_IN_USE, PySem.W.mg_of X G g_IN_USE⟩
    g_OUT_OF_RANGE := ⟨t_OUT_OF_RANGE, PySem.W.mg_of X G g_OUT_OF_RANGE⟩
    g_FULL := ⟨t_FULL, PySem.W.mg_of X G g_FULL⟩
    g_NOT_POSSIBLE := ⟨t_NOT_POSSIBLE, PySem.W.mg_of X G g_NOT_POSSIBLE⟩
    g_NOT_IN_USE := ⟨t_NOT_IN_USE, PySem.W.mg_of X G g_NOT_IN_USE⟩
    g_NOT_READY := ⟨t_NOT_READY, PySem.W.mg_of X G g_NOT_READY⟩
    g_WAITS_FOR_CRANE := ⟨t_WAITS_FOR_CRANE, PySem.W.mg_of X G g_WAITS_FOR_CRANE⟩
    g_BEING_LIFTED := ⟨t_BEING_LIFTED, PySem.W.mg_of X G g_BEING_LIFTED⟩
    g_BEING_CLEANED := ⟨t_BEING_CLEANED, PySem.W.mg_of X G g_BEING_CLEANED⟩
    g_START := ⟨t_START, PySem.W.mg_of X G g_START⟩
    g_ORDER := ⟨t_ORDER, PySem.W.mg_of X G g_ORDER⟩
    t_TELLINGS := ⟨r_TELLINGS, PySem.W.mg_of X G aT_TELLINGS, fun H => .inr ⟨_, _, _, lT_TELLINGS, rfl, rfl, by show 9 ≤ sizeLine; decide, (.cons rfl (.cons rfl (.cons rfl (.cons rfl (.cons rfl (.cons rfl (.cons rfl (.cons rfl (.cons rfl .nil)))))))))⟩⟩
    t_REPLIES := ⟨r_REPLIES, PySem.W.mg_of X G aT_REPLIES, fun H => .inr ⟨_, _, _, lT_REPLIES, rfl, rfl, by show 12 ≤ sizeLine; decide, (.cons rfl (.cons rfl (.cons rfl (.cons rfl (.cons rfl (.cons rfl (.cons rfl (.cons rfl (.cons rfl (.cons rfl (.cons rfl (.cons rfl .nil))))))))))))⟩⟩
    t_GIVEN_COUNTS := ⟨r_GIVEN_COUNTS, PySem.W.mg_of X G aT_GIVEN_COUNTS, fun H => .inr ⟨_, _, _, lT_GIVEN_COUNTS, rfl, rfl, by show 21 ≤ sizeLine; decide, (.cons ⟨_, rfl⟩ (.cons ⟨_, rfl⟩ (.cons ⟨_, rfl⟩ (.cons ⟨_, rfl⟩ (.cons ⟨_, rfl⟩ (.cons ⟨_, rfl⟩ (.cons ⟨_, rfl⟩ (.cons ⟨_, rfl⟩ (.cons ⟨_, rfl⟩ (.cons ⟨_, rfl⟩ (.cons ⟨_, rfl⟩ (.cons ⟨_, rfl⟩ (.cons ⟨_, rfl⟩ (.cons ⟨_, rfl⟩ (.cons ⟨_, rfl⟩ (.cons ⟨_, rfl⟩ (.cons ⟨_, rfl⟩ (.cons ⟨_, rfl⟩ (.cons ⟨_, rfl⟩ (.cons ⟨_, rfl⟩ (.cons ⟨_, rfl⟩ .nil)))))))))))))))))))))⟩⟩
    b_all := PySem.W.mg_none_of X G b_all
    b_enumerate := PySem.W.mg_none_of X G b_enumerate
    b_len := PySem.W.mg_none_of X G b_len
    b_list := PySem.W.mg_none_of X G b_list
    b_max := PySem.W.mg_none_of X G b_max
    b_min := PySem.W.mg_none_of X G b_min
    b_set := PySem.W.mg_none_of X G b_set
    b_sorted := PySem.W.mg_none_of X G b_sorted
    b_sum := PySem.W.mg_none_of X G b_sum
    }
  exact ⟨PySem.W.fnOf "answers" "answers" (defArgs s_answers) (defBody s_answers) (defScope s_answers) .none kV_answers dc_answers pm_answers an_answers cd_answers ct_answers, fun s us hu => match us, hu with | [_], _ => .of_eq rfl, fun base _ _ => ok_answers T⟩
end Bp
set_option Elab.async false
set_option linter.all false
set_option maxRecDepth 100000
set_option maxHeartbeats 4000000
theorem PySem.W.Fast.tw11406433671765423331 : True := trivial
theorem PySem.W.Fast.tw8032033548649029263 : True := trivial
theorem PySem.W.Fast.tw13247362150012700275 : True := trivial
theorem PySem.W.Fast.tw14930452471215730094 : True := trivial
theorem PySem.W.Fast.tw6779054668439409306 : True := trivial
theorem PySem.W.Fast.tw13434773498325557783 : True := trivial
theorem PySem.W.Fast.tw16947405330374986828 : True := trivial
theorem PySem.W.Fast.tw2008204476756206883 : True := trivial
theorem PySem.W.Fast.tw5321452423005329431 : True := trivial
theorem PySem.W.Fast.tw4804985049045702823 : True := trivial
theorem PySem.W.Fast.tw13509412559132835569 : True := trivial
theorem PySem.W.Fast.tw2888368444753787279 : True := trivial
theorem PySem.W.Fast.tw3507766487641243291 : True := trivial
theorem PySem.W.Fast.tw14108774164689707442 : True := trivial
theorem PySem.W.Fast.tw16908063715014559098 : True := trivial
theorem PySem.W.Fast.tw4544535322194787290 : True := trivial
theorem PySem.W.Fast.tw4071349091578134217 : True := trivial
theorem PySem.W.Fast.tw14089514761658326614 : True := trivial
theorem PySem.W.Fast.tw9034245771626833106 : True := trivial
theorem PySem.W.Fast.tw5702805277859101212 : True := trivial
theorem PySem.W.Fast.tw15326846650166521696 : True := trivial
theorem PySem.W.Fast.tw15944350228992401424 : True := trivial
theorem PySem.W.Fast.tw3143953339148030374 : True := trivial
theorem PySem.W.Fast.tw2432121316853111489 : True := trivial
theorem PySem.W.Fast.tw12160898217172156914 : True := trivial
theorem PySem.W.Fast.tw11045123008353884866 : True := trivial
theorem PySem.W.Fast.tw3340024774886073613 : True := trivial
theorem PySem.W.Fast.tw8262474902129622495 : True := trivial
theorem PySem.W.Fast.tw8873909170254946363 : True := trivial
theorem PySem.W.Fast.tw11655935793320266395 : True := trivial
theorem PySem.W.Fast.tw16002500397796349358 : True := trivial
theorem PySem.W.Fast.tw7447095394997398787 : True := trivial
theorem PySem.W.Fast.tw12391230838153656327 : True := trivial
theorem PySem.W.Fast.tw6811016781103756965 : True := trivial
theorem PySem.W.Fast.tw1273915352589352342 : True := trivial
theorem PySem.W.Fast.tw12140303725421840865 : True := trivial
theorem PySem.W.Fast.tw5180384190638156109 : True := trivial
theorem PySem.W.Fast.tw5381845789803026286 : True := trivial
theorem PySem.W.Fast.tw8389210576587102634 : True := trivial
theorem PySem.W.Fast.tw8574632249774599042 : True := trivial
theorem PySem.W.Fast.tw8646519293660430662 : True := trivial
theorem PySem.W.Fast.tw2477723373254448687 : True := trivial
theorem PySem.W.Fast.tw428881971508077592 : True := trivial
theorem PySem.W.Fast.tw4673979908475009511 : True := trivial
theorem PySem.W.Fast.tw14321652987102686956 : True := trivial
theorem PySem.W.Fast.tw3407228031066941331 : True := trivial
theorem PySem.W.Fast.tw15971804308734575914 : True := trivial
theorem PySem.W.Fast.tw10809364845485520161 : True := trivial
theorem PySem.W.Fast.tw9628804937067557647 : True := trivial
theorem PySem.W.Fast.tw11231228730104615461 : True := trivial
theorem PySem.W.Fast.tw4821696455616492251 : True := trivial
theorem PySem.W.Fast.tw10156216290578865870 : True := trivial
theorem PySem.W.Fast.tw10699962544702274495 : True := trivial
theorem PySem.W.Fast.tw16118597891006092688 : True := trivial
theorem PySem.W.Fast.tw5748720519609948283 : True := trivial
theorem PySem.W.Fast.tw16657414220880964332 : True := trivial
theorem PySem.W.Fast.tw5872259865203046582 : True := trivial
theorem PySem.W.Fast.tw3804587174730260499 : True := trivial
theorem PySem.W.Fast.tw13413277715028425318 : True := trivial
theorem PySem.W.Fast.tw11892238584771086016 : True := trivial
theorem PySem.W.Fast.tw9266113802513016147 : True := trivial
theorem PySem.W.Fast.tw10087913127121087217 : True := trivial
theorem PySem.W.Fast.tw2340197703486226553 : True := trivial
theorem PySem.W.Fast.tw4431914565312792464 : True := trivial
theorem PySem.W.Fast.tw6004009548919520866 : True := trivial
theorem PySem.W.Fast.tw9580191715328620878 : True := trivial
theorem PySem.W.Fast.tw11103725854268040607 : True := trivial
theorem PySem.W.Fast.tw5687700201977173565 : True := trivial
theorem PySem.W.Fast.tw1267620431647849549 : True := trivial
theorem PySem.W.Fast.tw7212716358898041783 : True := trivial
theorem PySem.W.Fast.tw8167709117332664574 : True := trivial
theorem PySem.W.Fast.tw15750822487613529308 : True := trivial
theorem PySem.W.Fast.tw14491746764261950801 : True := trivial
theorem PySem.W.Fast.tw16412226588847438550 : True := trivial
theorem PySem.W.Fast.tw2657698443825063440 : True := trivial
theorem PySem.W.Fast.tw6409963517521534458 : True := trivial
theorem PySem.W.Fast.tw1885876963863453893 : True := trivial
theorem PySem.W.Fast.tw10342518756110018835 : True := trivial
theorem PySem.W.Fast.tw3554088563334018832 : True := trivial
theorem PySem.W.Fast.tw18220594000640825767 : True := trivial
theorem PySem.W.Fast.tw611174902823900130 : True := trivial
theorem PySem.W.Fast.tw2299978070752579616 : True := trivial
theorem PySem.W.Fast.tw11537726526985582021 : True := trivial
theorem PySem.W.Fast.tw16689959029675757051 : True := trivial
theorem PySem.W.Fast.tw9293134174964142330 : True := trivial
theorem PySem.W.Fast.tw10044450393498090495 : True := trivial
theorem PySem.W.Fast.tw103526328473695510 : True := trivial
theorem PySem.W.Fast.tw11769942529113310270 : True := trivial
theorem PySem.W.Fast.tw5840621614683054416 : True := trivial
theorem PySem.W.Fast.tw12797958950668446567 : True := trivial
theorem PySem.W.Fast.tw10036438342315400359 : True := trivial
theorem PySem.W.Fast.tw4148984408375577717 : True := trivial
theorem PySem.W.Fast.tw7095502048071765279 : True := trivial
theorem PySem.W.Fast.tw10328584229118987046 : True := trivial
theorem PySem.W.Fast.tw2168463774120853456 : True := trivial
theorem PySem.W.Fast.tw14549851760423350226 : True := trivial
theorem PySem.W.Fast.tw17882775797169485110 : True := trivial
theorem PySem.W.Fast.tw8616336974690018847 : True := trivial
theorem PySem.W.Fast.tw7988811571472291779 : True := trivial
theorem PySem.W.Fast.tw11107702842746810890 : True := trivial
theorem PySem.W.Fast.tw11016999097005534205 : True := trivial
theorem PySem.W.Fast.tw6308197497241593863 : True := trivial
theorem PySem.W.Fast.tw6290757995619432056 : True := trivial
theorem PySem.W.Fast.tw4799350294440544769 : True := trivial
theorem PySem.W.Fast.tw13983002803029882960 : True := trivial
theorem PySem.W.Fast.tw9112922450901240163 : True := trivial
theorem PySem.W.Fast.tw18091883408663108439 : True := trivial
theorem PySem.W.Fast.tw12166260769543774750 : True := trivial
theorem PySem.W.Fast.tw15211349056693095884 : True := trivial
theorem PySem.W.Fast.tw5672405566615320951 : True := trivial
theorem PySem.W.Fast.tw16613221069403134517 : True := trivial
theorem PySem.W.Fast.tw2633205059518141672 : True := trivial
theorem PySem.W.Fast.tw6586482057850331455 : True := trivial
theorem PySem.W.Fast.tw10662622771689086255 : True := trivial
theorem PySem.W.Fast.tw562969334919292675 : True := trivial
theorem PySem.W.Fast.tw1025796147381220140 : True := trivial
theorem PySem.W.Fast.tw10184345570504763165 : True := trivial
theorem PySem.W.Fast.tw4985064630742817403 : True := trivial
theorem PySem.W.Fast.tw16195643173422442566 : True := trivial
theorem PySem.W.Fast.tw18440665350764652199 : True := trivial
theorem PySem.W.Fast.tw4872971747424652446 : True := trivial
theorem PySem.W.Fast.tw1021190682128321622 : True := trivial
theorem PySem.W.Fast.tw6188832657759027552 : True := trivial
theorem PySem.W.Fast.tw17900999458961885430 : True := trivial
theorem PySem.W.Fast.tw13570218790159514795 : True := trivial
theorem PySem.W.Fast.tw2000888863206779152 : True := trivial
theorem PySem.W.Fast.tw9927751123705367270 : True := trivial
theorem PySem.W.Fast.tw7358171090731994097 : True := trivial
theorem PySem.W.Fast.tw7458019814931497685 : True := trivial
theorem PySem.W.Fast.tw6100804318737375582 : True := trivial
theorem PySem.W.Fast.tw3658477224544430172 : True := trivial
theorem PySem.W.Fast.tw1563666101746072035 : True := trivial
theorem PySem.W.Fast.tw8844264011822669757 : True := trivial
theorem PySem.W.Fast.tw4138361594793637670 : True := trivial
theorem PySem.W.Fast.tw16686607633072392835 : True := trivial
theorem PySem.W.Fast.tw6490244264914259678 : True := trivial
theorem PySem.W.Fast.tw9076524235570108757 : True := trivial
theorem PySem.W.Fast.tw3653377981637704577 : True := trivial
theorem PySem.W.Fast.tw8857711631944166129 : True := trivial
theorem PySem.W.Fast.tw674577991134956550 : True := trivial
theorem PySem.W.Fast.tw18182939653921001764 : True := trivial
theorem PySem.W.Fast.tw3406665771316127035 : True := trivial
theorem PySem.W.Fast.tw17021786721231338372 : True := trivial
theorem PySem.W.Fast.tw12612655862615739564 : True := trivial
theorem PySem.W.Fast.tw7732623732864653059 : True := trivial
theorem PySem.W.Fast.tw2215783327949028571 : True := trivial
theorem PySem.W.Fast.tw6730292391833067947 : True := trivial
theorem PySem.W.Fast.tw8246948658057978679 : True := trivial
theorem PySem.W.Fast.tw13512758536051629899 : True := trivial
theorem PySem.W.Fast.tw16294891398981627358 : True := trivial
theorem PySem.W.Fast.tw10262853709916130030 : True := trivial
theorem PySem.W.Fast.tw1575237708727240011 : True := trivial
theorem PySem.W.Fast.tw11295787648096488038 : True := trivial
theorem PySem.W.Fast.tw2078415246564963153 : True := trivial
theorem PySem.W.Fast.tw15947417580261036693 : True := trivial
theorem PySem.W.Fast.tw18285282067898417302 : True := trivial
theorem PySem.W.Fast.tw8995989506290004818 : True := trivial
theorem PySem.W.Fast.tw14515201818290548197 : True := trivial
theorem PySem.W.Fast.tw17762791241957755990 : True := trivial
theorem PySem.W.Fast.tw14127073167771735131 : True := trivial
theorem PySem.W.Fast.tw7235002060237083559 : True := trivial
theorem PySem.W.Fast.tw15074101993985453088 : True := trivial
theorem PySem.W.Fast.tw2234862769314392869 : True := trivial
theorem PySem.W.Fast.tw8093783613801594642 : True := trivial
theorem PySem.W.Fast.tw1688343557106479193 : True := trivial
theorem PySem.W.Fast.tw2568434904233311918 : True := trivial
theorem PySem.W.Fast.tw5791937258574735208 : True := trivial
theorem PySem.W.Fast.tw340550819466494882 : True := trivial
theorem PySem.W.Fast.tw15949221341763137100 : True := trivial
theorem PySem.W.Fast.tw12653748795878272257 : True := trivial
theorem PySem.W.Fast.tw7668914983254339584 : True := trivial
theorem PySem.W.Fast.tw9718231735735952829 : True := trivial
theorem PySem.W.Fast.tw14833225294185635960 : True := trivial
theorem PySem.W.Fast.tw12979042268395284964 : True := trivial
theorem PySem.W.Fast.tw9203378222041158704 : True := trivial
theorem PySem.W.Fast.tw10277844500341145402 : True := trivial
theorem PySem.W.Fast.tw1920574590239808771 : True := trivial
theorem PySem.W.Fast.tw14141211796926485144 : True := trivial
theorem PySem.W.Fast.tw1362481464113636682 : True := trivial
theorem PySem.W.Fast.tw17426704515991967681 : True := trivial
theorem PySem.W.Fast.tw12690373059108794109 : True := trivial
theorem PySem.W.Fast.tw17075829409642227617 : True := trivial
theorem PySem.W.Fast.tw5534347362558976922 : True := trivial
theorem PySem.W.Fast.tw16662455558644642090 : True := trivial
theorem PySem.W.Fast.tw12260518817647537623 : True := trivial
theorem PySem.W.Fast.tw15222194278578673193 : True := trivial
theorem PySem.W.Fast.tw2992538440252540394 : True := trivial
theorem PySem.W.Fast.tw6152835994339950727 : True := trivial
theorem PySem.W.Fast.tw14285895850982142624 : True := trivial
theorem PySem.W.Fast.tw15450280951666427092 : True := trivial
theorem PySem.W.Fast.tw6792601829464927829 : True := trivial
theorem PySem.W.Fast.tw494180236008708309 : True := trivial
theorem PySem.W.Fast.tw3513239707277893224 : True := trivial
theorem PySem.W.Fast.tw3465880577040802611 : True := trivial
theorem PySem.W.Fast.tw1612256082223158084 : True := trivial
theorem PySem.W.Fast.tw3344315560100882208 : True := trivial
theorem PySem.W.Fast.tw9760179811186137611 : True := trivial
theorem PySem.W.Fast.tw12056102276340035704 : True := trivial
theorem PySem.W.Fast.tw7337923852981526811 : True := trivial
theorem PySem.W.Fast.tw8509765783952806922 : True := trivial
theorem PySem.W.Fast.tw1273480222922426870 : True := trivial
theorem PySem.W.Fast.tw2296969226794024202 : True := trivial
theorem PySem.W.Fast.tw3770667474131385780 : True := trivial
theorem PySem.W.Fast.tw13917904611685159292 : True := trivial
theorem PySem.W.Fast.tw16507519200675934965 : True := trivial
theorem PySem.W.Fast.tw10820391709221311101 : True := trivial
theorem PySem.W.Fast.tw4607295096142421301 : True := trivial
theorem PySem.W.Fast.tw10962044571777257352 : True := trivial
theorem PySem.W.Fast.tw170377097187990543 : True := trivial
theorem PySem.W.Fast.tw12777924859140847750 : True := trivial
theorem PySem.W.Fast.tw9538419411331672115 : True := trivial
theorem PySem.W.Fast.tw11386692890989340962 : True := trivial
theorem PySem.W.Fast.tw4957258336963776284 : True := trivial
theorem PySem.W.Fast.tw13789050636860839008 : True := trivial
theorem PySem.W.Fast.tw464150279591475425 : True := trivial
theorem PySem.W.Fast.tw14887015189199769385 : True := trivial
theorem PySem.W.Fast.tw2539147505073034536 : True := trivial
theorem PySem.W.Fast.tw8064524619301371822 : True := trivial
theorem PySem.W.Fast.tw13203392113218102016 : True := trivial
theorem PySem.W.Fast.tw4476763848954800396 : True := trivial
theorem PySem.W.Fast.tw1500902717659886297 : True := trivial
theorem PySem.W.Fast.tw4211459818826631430 : True := trivial
theorem PySem.W.Fast.tw16035324187272676793 : True := trivial
theorem PySem.W.Fast.tw14575556263814115999 : True := trivial
theorem PySem.W.Fast.tw9838866171703014025 : True := trivial
theorem PySem.W.Fast.tw3235524268757783018 : True := trivial
theorem PySem.W.Fast.tw16053082481485871076 : True := trivial
theorem PySem.W.Fast.tw2134003244612221196 : True := trivial
theorem PySem.W.Fast.tw12414349363673032227 : True := trivial
theorem PySem.W.Fast.tw8981283505159750403 : True := trivial
theorem PySem.W.Fast.tw8415912351951138037 : True := trivial
theorem PySem.W.Fast.tw436876327714208015 : True := trivial
theorem PySem.W.Fast.tw14705192745921812964 : True := trivial
theorem PySem.W.Fast.tw11397894148124233629 : True := trivial
theorem PySem.W.Fast.tw725974680434418308 : True := trivial
theorem PySem.W.Fast.tw13833856235186405909 : True := trivial
theorem PySem.W.Fast.tw12531990552925505786 : True := trivial
theorem PySem.W.Fast.tw1080693228583385470 : True := trivial
theorem PySem.W.Fast.tw7087992011499696094 : True := trivial
theorem PySem.W.Fast.tw3672266106062797825 : True := trivial
theorem PySem.W.Fast.tw8996913813484042583 : True := trivial
theorem PySem.W.Fast.tw8845594210654239116 : True := trivial
theorem PySem.W.Fast.tw10369647623212913660 : True := trivial
theorem PySem.W.Fast.tw1582253096264078175 : True := trivial
theorem PySem.W.Fast.tw7534382767571551607 : True := trivial
theorem PySem.W.Fast.tw3053770410517124679 : True := trivial
theorem PySem.W.Fast.tw6224326604214206913 : True := trivial
theorem PySem.W.Fast.tw2719005185705269502 : True := trivial
theorem PySem.W.Fast.tw12347216120792030489 : True := trivial
theorem PySem.W.Fast.tw16138955434227697069 : True := trivial
theorem PySem.W.Fast.tw3578432358744356183 : True := trivial
theorem PySem.W.Fast.tw9727825416295149069 : True := trivial
theorem PySem.W.Fast.tw17473048754900492501 : True := trivial
theorem PySem.W.Fast.tw5947472484607365851 : True := trivial
theorem PySem.W.Fast.tw13829038617250786462 : True := trivial
theorem PySem.W.Fast.tw8429340585668234032 : True := trivial
theorem PySem.W.Fast.tw5837489068141611850 : True := trivial
theorem PySem.W.Fast.tw9511950789127959038 : True := trivial
theorem PySem.W.Fast.tw2415891602905051505 : True := trivial
theorem PySem.W.Fast.tw14842657410511355733 : True := trivial
theorem PySem.W.Fast.tw11463379219374247966 : True := trivial
theorem PySem.W.Fast.tw7158402816621957357 : True := trivial
theorem PySem.W.Fast.tw6333379359642885001 : True := trivial
theorem PySem.W.Fast.tw16495186800167647993 : True := trivial
theorem PySem.W.Fast.tw17222486327263006078 : True := trivial
theorem PySem.W.Fast.tw15484392842703879933 : True := trivial
theorem PySem.W.Fast.tw16033981846002072236 : True := trivial
theorem PySem.W.Fast.tw849316903433846585 : True := trivial
theorem PySem.W.Fast.tw8656377408941820151 : True := trivial
theorem PySem.W.Fast.tw8159964857404767583 : True := trivial
theorem PySem.W.Fast.tw9102240252456253875 : True := trivial
theorem PySem.W.Fast.tw14789086534065924265 : True := trivial
theorem PySem.W.Fast.tw444596312636108103 : True := trivial
theorem PySem.W.Fast.tw18250391202946445452 : True := trivial
theorem PySem.W.Fast.tw8679366410764421383 : True := trivial
theorem PySem.W.Fast.tw4562834289509220956 : True := trivial
theorem PySem.W.Fast.tw10514221176185452958 : True := trivial
theorem PySem.W.Fast.tw5936471622865283508 : True := trivial
theorem PySem.W.Fast.tw9766155428741655216 : True := trivial
theorem PySem.W.Fast.tw13788244336037159015 : True := trivial
theorem PySem.W.Fast.tw9680166292390474851 : True := trivial
theorem PySem.W.Fast.tw6114659126549948266 : True := trivial
theorem PySem.W.Fast.tw14581047800708751056 : True := trivial
theorem PySem.W.Fast.tw7475393707846236879 : True := trivial
theorem PySem.W.Fast.tw2223323488968819120 : True := trivial
theorem PySem.W.Fast.tw11556523781490463356 : True := trivial
theorem PySem.W.Fast.tw9441044312223836842 : True := trivial
theorem PySem.W.Fast.tw14295892787899567935 : True := trivial
theorem PySem.W.Fast.tw15827523224119515891 : True := trivial
theorem PySem.W.Fast.tw3757705919792055429 : True := trivial
theorem PySem.W.Fast.tw3733593080085276258 : True := trivial
theorem PySem.W.Fast.tw1283708301768614392 : True := trivial
theorem PySem.W.Fast.tw8660939976152272359 : True := trivial
theorem PySem.W.Fast.tw17631502225384912350 : True := trivial
theorem PySem.W.Fast.tw11721564848963833684 : True := trivial
theorem PySem.W.Fast.tw5948389320056076696 : True := trivial
theorem PySem.W.Fast.tw749683883904572353 : True := trivial
theorem PySem.W.Fast.tw5366017465987312041 : True := trivial
theorem PySem.W.Fast.tw12708775672304320175 : True := trivial
theorem PySem.W.Fast.tw17823856728176946713 : True := trivial
theorem PySem.W.Fast.tw6706232275219034628 : True := trivial
theorem PySem.W.Fast.tw8883858372807897411 : True := trivial
theorem PySem.W.Fast.tw2076891858870062826 : True := trivial
theorem PySem.W.Fast.tw6781135759632595165 : True := trivial
theorem PySem.W.Fast.tw420671259978760485 : True := trivial
theorem PySem.W.Fast.tw5639555199271535883 : True := trivial
theorem PySem.W.Fast.tw1192622405161374551 : True := trivial
theorem PySem.W.Fast.tw8971200965885348070 : True := trivial
theorem PySem.W.Fast.tw15538175264204577534 : True := trivial
theorem PySem.W.Fast.tw16660927542190030334 : True := trivial
theorem PySem.W.Fast.tw16588305143273901668 : True := trivial
theorem PySem.W.Fast.tw16022671150343510968 : True := trivial
theorem PySem.W.Fast.tw15600119043052598264 : True := trivial
theorem PySem.W.Fast.tw13421095257647532510 : True := trivial
theorem PySem.W.Fast.tw13498809846555939746 : True := trivial
theorem PySem.W.Fast.tw3372130187118121992 : True := trivial
theorem PySem.W.Fast.tw1299037847690064979 : True := trivial
theorem PySem.W.Fast.tw4954176585183699381 : True := trivial
theorem PySem.W.Fast.tw2410391466649654487 : True := trivial
theorem PySem.W.Fast.tw4109980283662607967 : True := trivial
theorem PySem.W.Fast.tw10699949774412837055 : True := trivial
theorem PySem.W.Fast.tw1336711159564879632 : True := trivial
theorem PySem.W.Fast.tw3702713727981143215 : True := trivial
theorem PySem.W.Fast.tw17446947010396540752 : True := trivial
theorem PySem.W.Fast.tw8956035726089447412 : True := trivial
theorem PySem.W.Fast.tw8112220713418970991 : True := trivial
theorem PySem.W.Fast.tw12015736400409454081 : True := trivial
theorem PySem.W.Fast.tw1693864552688848534 : True := trivial
theorem PySem.W.Fast.tw10102870834758060173 : True := trivial
theorem PySem.W.Fast.tw10080006909967420707 : True := trivial
theorem PySem.W.Fast.tw12660718974254254570 : True := trivial
theorem PySem.W.Fast.tw13265987978016315004 : True := trivial
theorem PySem.W.Fast.tw14554205207079168927 : True := trivial
theorem PySem.W.Fast.tw12363303358745611285 : True := trivial
theorem PySem.W.Fast.tw16845870176024581098 : True := trivial
theorem PySem.W.Fast.tw700104531458525404 : True := trivial
theorem PySem.W.Fast.tw10427759546805446466 : True := trivial
theorem PySem.W.Fast.tw870069597511964115 : True := trivial
theorem PySem.W.Fast.tw3660470268444162835 : True := trivial
theorem PySem.W.Fast.tw9941300126709916750 : True := trivial
theorem PySem.W.Fast.tw15446990857141073623 : True := trivial
theorem PySem.W.Fast.tw6665785890000048428 : True := trivial
theorem PySem.W.Fast.tw1964011941523273125 : True := trivial
theorem PySem.W.Fast.tw14532086110840716496 : True := trivial
theorem PySem.W.Fast.tw8551453409507876583 : True := trivial
theorem PySem.W.Fast.tw14340281949221787087 : True := trivial
theorem PySem.W.Fast.tw17951109919971455850 : True := trivial
theorem PySem.W.Fast.tw8678862781061024268 : True := trivial
theorem PySem.W.Fast.tw15786388092151959375 : True := trivial
theorem PySem.W.Fast.tw8545195299211225103 : True := trivial
theorem PySem.W.Fast.tw872262263567966352 : True := trivial
theorem PySem.W.Fast.tw6165075054481605853 : True := trivial
theorem PySem.W.Fast.tw12581800749300864580 : True := trivial
theorem PySem.W.Fast.tw11730072457517064828 : True := trivial
theorem PySem.W.Fast.tw14262643626690316710 : True := trivial
theorem PySem.W.Fast.tw14934882772774880494 : True := trivial
theorem PySem.W.Fast.tw17624910600588283431 : True := trivial
theorem PySem.W.Fast.tw12502168488536962590 : True := trivial
theorem PySem.W.Fast.tw8861064006154230349 : True := trivial
theorem PySem.W.Fast.tw4213146670469539727 : True := trivial
theorem PySem.W.Fast.tw14432465376615476346 : True := trivial
theorem PySem.W.Fast.tw17543806407182985656 : True := trivial
theorem PySem.W.Fast.tw9262270452363842975 : True := trivial
theorem PySem.W.Fast.tw13058599673281994907 : True := trivial
theorem PySem.W.Fast.tw15520883061610364525 : True := trivial
theorem PySem.W.Fast.tw8483978883480261248 : True := trivial
theorem PySem.W.Fast.tw2748895370668981774 : True := trivial
theorem PySem.W.Fast.tw4654397389113604725 : True := trivial
theorem PySem.W.Fast.tw521739603308435030 : True := trivial
theorem PySem.W.Fast.tw15931316132787433624 : True := trivial
theorem PySem.W.Fast.tw5040864724315803031 : True := trivial
theorem PySem.W.Fast.tw13163840070503199831 : True := trivial
theorem PySem.W.Fast.tw1911813604908150150 : True := trivial
theorem PySem.W.Fast.tw500832683015021759 : True := trivial
theorem PySem.W.Fast.tw1138373037568332729 : True := trivial
theorem PySem.W.Fast.tw1621195061823647562 : True := trivial
theorem PySem.W.Fast.tw2653087202547903788 : True := trivial
theorem PySem.W.Fast.tw10537712773563482841 : True := trivial
theorem PySem.W.Fast.tw16196888792818328759 : True := trivial
theorem PySem.W.Fast.tw15443241636809747650 : True := trivial
theorem PySem.W.Fast.tw15654944912380429844 : True := trivial
theorem PySem.W.Fast.tw16914928867632033208 : True := trivial
theorem PySem.W.Fast.tw7039760465574912507 : True := trivial
theorem PySem.W.Fast.tw8018363032486390635 : True := trivial
theorem PySem.W.Fast.tw14857387645817993710 : True := trivial
theorem PySem.W.Fast.tw10747025574850759770 : True := trivial
theorem PySem.W.Fast.tw13017935147520665282 : True := trivial
theorem PySem.W.Fast.tw6210590352173126528 : True := trivial
theorem PySem.W.Fast.tw12475072951378087573 : True := trivial
theorem PySem.W.Fast.tw11790374966810785424 : True := trivial
theorem PySem.W.Fast.tw6021505073625412779 : True := trivial
theorem PySem.W.Fast.tw7109824325224025202 : True := trivial
theorem PySem.W.Fast.tw1100440690844661017 : True := trivial
theorem PySem.W.Fast.tw3852767523629301919 : True := trivial
theorem PySem.W.Fast.tw9407560141276160874 : True := trivial
theorem PySem.W.Fast.tw11461787763596409416 : True := trivial
theorem PySem.W.Fast.tw4728029678920747216 : True := trivial
theorem PySem.W.Fast.tw6070443885413858642 : True := trivial
theorem PySem.W.Fast.tw7254485121085496303 : True := trivial
theorem PySem.W.Fast.tw9079693367897118931 : True := trivial
theorem PySem.W.Fast.tw7755997467129674785 : True := trivial
theorem PySem.W.Fast.tw8552997147881333041 : True := trivial
theorem PySem.W.Fast.tw7161307904736987500 : True := trivial
theorem PySem.W.Fast.tw13060039964620217206 : True := trivial
theorem PySem.W.Fast.tw16679364714976478400 : True := trivial
theorem PySem.W.Fast.tw265015834939153802 : True := trivial
theorem PySem.W.Fast.tw10955496341992623475 : True := trivial
theorem PySem.W.Fast.tw3679121515965992246 : True := trivial
theorem PySem.W.Fast.tw10297544412123225022 : True := trivial
theorem PySem.W.Fast.tw106377433460670009 : True := trivial
theorem PySem.W.Fast.tw9780894830648048021 : True := trivial
theorem PySem.W.Fast.tw9355449718236527300 : True := trivial
theorem PySem.W.Fast.tw13585499686673961201 : True := trivial
theorem PySem.W.Fast.tw16586327346819928310 : True := trivial
theorem PySem.W.Fast.tw16489632771949007448 : True := trivial
theorem PySem.W.Fast.tw6880910716426325950 : True := trivial
theorem PySem.W.Fast.tw4581169411463877238 : True := trivial
theorem PySem.W.Fast.tw9692030383752546675 : True := trivial
theorem PySem.W.Fast.tw13288829518276128519 : True := trivial
theorem PySem.W.Fast.tw12655622524523924219 : True := trivial
open PySem PySem.W PyProof.Rows
set_option maxRecDepth 100000 in
set_option maxHeartbeats 0 in
theorem PySem.Challenge.cw_bladecrane_s01_answers_holds : PySem.Challenge.rw_bladecrane_s01_answers.Holds := by
  w_on; k_headS; (case hw => exact ⟨[.list [.int 20]], by decide +kernel, by decide +kernel⟩)
  k_fillS
  refine L2.walk_specK (r := PySem.Challenge.rw_bladecrane_s01_answers) (k := 20) (CX := L2.CX0) (ps := ["calls"]) (sp := Bp.sp_answers) (by decide +kernel) rfl rfl ⟨rfl, by decide, by decide⟩ (fun w h Y => PySem.W.kIn_of Y) ?F ?S (fun _ _ _ _ z => z)
  case F =>
    intro w mg fa h Y KX G hmg
    refine' Bp.row_mk KX G hmg ?aC_Blade ?pg_Blade ?hd_Blade ?po_Blade ?sa_Blade ?mk_Blade ?kc_Blade ?n_Blade_kind ?n_Blade_minutes ?aC_Job ?pg_Job ?hd_Job ?po_Job ?sa_Job ?mk_Job ?kc_Job ?n_Job_blade ?n_Job_mould ?n_Job_begin ?n_Job_ready ?n_Job_lifted ?n_Job_out ?n_Job_free ?aC_Works ?pg_Works ?hd_Works ?po_Works ?sa_Works ?mk_Works ?kc_Works ?n_Works_started ?n_Works_lift ?n_Works_clean ?n_Works_minute ?n_Works_moulds ?n_Works_waiting ?n_Works_jobs ?n_Works_done ?a_Blade_init ?i_Blade_init ?l_Blade_init ?c_Blade_init ?k_Blade_init ?a_Job_init ?i_Job_init ?l_Job_init ?c_Job_init ?k_Job_init ?a_Works_init ?i_Works_init ?l_Works_init ?c_Works_init ?k_Works_init ?a_Works_make_empty ?i_Works_make_empty ?l_Works_make_empty ?c_Works_make_empty ?k_Works_make_empty ?a_is_mould ?l_is_mould ?c_is_mould ?k_is_mould ?a_all_jobs ?l_all_jobs ?c_all_jobs ?k_all_jobs ?a_least_free_number ?l_least_free_number ?c_least_free_number ?k_least_free_number ?a_add_waiting ?l_add_waiting ?c_add_waiting ?k_add_waiting ?a_make_job ?l_make_job ?c_make_job ?k_make_job ?a_make_waiting ?l_make_waiting ?c_make_waiting ?k_make_waiting ?a_first_lift ?l_first_lift ?c_first_lift ?k_first_lift ?a_free_at_last ?l_free_at_last ?c_free_at_last ?k_free_at_last ?a_job_from ?l_job_from ?c_job_from ?k_job_from ?a_mould_is_used ?l_mould_is_used ?c_mould_is_used ?k_mould_is_used ?a_has_mould ?l_has_mould ?c_has_mould ?k_has_mould ?a_best_job ?l_best_job ?c_best_job ?k_best_job ?a_last_out ?l_last_out ?c_last_out ?k_last_out ?a_end_of_order ?l_end_of_order ?c_end_of_order ?k_end_of_order ?a_best_order ?l_best_order ?c_best_order ?k_best_order ?a_better_order ?l_better_order ?c_better_order ?k_better_order ?a_tell_over ?l_tell_over ?c_tell_over ?k_tell_over ?a_tell_crane ?l_tell_crane ?c_tell_crane ?k_tell_crane ?a_part_of_job ?l_part_of_job ?c_part_of_job ?k_part_of_job ?a_tell_inside ?l_tell_inside ?c_tell_inside ?k_tell_inside ?a_tell_free_at ?l_tell_free_at ?c_tell_free_at ?k_tell_free_at ?a_tell_lifts ?l_tell_lifts ?c_tell_lifts ?k_tell_lifts ?a_count_used ?l_count_used ?c_count_used ?k_count_used ?a_tell_idle ?l_tell_idle ?c_tell_idle ?k_tell_idle ?a_tell_job ?l_tell_job ?c_tell_job ?k_tell_job ?a_tell_waiting ?l_tell_waiting ?c_tell_waiting ?k_tell_waiting ?a_tell_state ?l_tell_state ?c_tell_state ?k_tell_state ?a_start_anew ?l_start_anew ?c_start_anew ?k_start_anew ?a_add_mould ?l_add_mould ?c_add_mould ?k_add_mould ?a_add_blade ?l_add_blade ?c_add_blade ?k_add_blade ?a_drop_blade ?l_drop_blade ?c_drop_blade ?k_drop_blade ?a_tell_best ?l_tell_best ?c_tell_best ?k_tell_best ?a_put_into_best ?l_put_into_best ?c_put_into_best ?k_put_into_best ?a_put_blade ?l_put_blade ?c_put_blade ?k_put_blade ?a_put_blade_at ?l_put_blade_at ?c_put_blade_at ?k_put_blade_at ?a_cancel_job ?l_cancel_job ?c_cancel_job ?k_cancel_job ?a_pass_by ?l_pass_by ?c_pass_by ?k_pass_by ?a_can_be_put ?l_can_be_put ?c_can_be_put ?k_can_be_put ?a_tell_order ?l_tell_order ?c_tell_order ?k_tell_order ?a_all_can_be_put ?l_all_can_be_put ?c_all_can_be_put ?k_all_can_be_put ?a_tell_plan ?l_tell_plan ?c_tell_plan ?k_tell_plan ?a_follow_plan ?l_follow_plan ?c_follow_plan ?k_follow_plan ?a_count_given ?l_count_given ?c_count_given ?k_count_given ?a_reply_to ?l_reply_to ?c_reply_to ?k_reply_to ?a_answers ?l_answers ?c_answers ?k_answers ?g_LONGEST_LIFT ?g_LONGEST_CLEAN ?g_HIGHEST_KIND ?g_LONGEST_IN_MOULD ?g_MOST_MOULDS ?g_MOST_WAITING ?g_MOST_JOBS ?g_FARTHEST_AHEAD ?g_LONGEST_PASS ?g_LAST_MINUTE ?g_NONE_SUCH ?g_NOT_STARTED ?g_BEGUN ?g_IN_USE ?g_OUT_OF_RANGE ?g_FULL ?g_NOT_POSSIBLE ?g_NOT_IN_USE ?g_NOT_READY ?g_WAITS_FOR_CRANE ?g_BEING_LIFTED ?g_BEING_CLEANED ?g_START ?g_ORDER ?aT_TELLINGS ?lT_TELLINGS ?aT_REPLIES ?lT_REPLIES ?aT_GIVEN_COUNTS ?lT_GIVEN_COUNTS ?b_all ?b_enumerate ?b_len ?b_list ?b_max ?b_min ?b_set ?b_sorted ?b_sum
    (case aC_Blade => k_is)
    (case pg_Blade => k_is)
    (case hd_Blade => k_is)
    (case po_Blade => k_is)
    (case sa_Blade => k_is)
    (case mk_Blade => k_is)
    (case kc_Blade => k_is)
    (case n_Blade_kind => k_is)
    (case n_Blade_minutes => k_is)
    (case aC_Job => k_is)
    (case pg_Job => k_is)
    (case hd_Job => k_is)
    (case po_Job => k_is)
    (case sa_Job => k_is)
    (case mk_Job => k_is)
    (case kc_Job => k_is)
    (case n_Job_blade => k_is)
    (case n_Job_mould => k_is)
    (case n_Job_begin => k_is)
    (case n_Job_ready => k_is)
    (case n_Job_lifted => k_is)
    (case n_Job_out => k_is)
    (case n_Job_free => k_is)
    (case aC_Works => k_is)
    (case pg_Works => k_is)
    (case hd_Works => k_is)
    (case po_Works => k_is)
    (case sa_Works => k_is)
    (case mk_Works => k_is)
    (case kc_Works => k_is)
    (case n_Works_started => k_is)
    (case n_Works_lift => k_is)
    (case n_Works_clean => k_is)
    (case n_Works_minute => k_is)
    (case n_Works_moulds => k_is)
    (case n_Works_waiting => k_is)
    (case n_Works_jobs => k_is)
    (case n_Works_done => k_is)
    (case a_Blade_init => k_is)
    (case i_Blade_init => k_is)
    (case l_Blade_init => k_is)
    (case c_Blade_init => k_is)
    (case k_Blade_init => k_is)
    (case a_Job_init => k_is)
    (case i_Job_init => k_is)
    (case l_Job_init => k_is)
    (case c_Job_init => k_is)
    (case k_Job_init => k_is)
    (case a_Works_init => k_is)
    (case i_Works_init => k_is)
    (case l_Works_init => k_is)
    (case c_Works_init => k_is)
    (case k_Works_init => k_is)
    (case a_Works_make_empty => k_is)
    (case i_Works_make_empty => k_is)
    (case l_Works_make_empty => k_is)
    (case c_Works_make_empty => k_is)
    (case k_Works_make_empty => k_is)
    (case a_is_mould => k_is)
    (case l_is_mould => k_is)
    (case c_is_mould => k_is)
    (case k_is_mould => k_is)
    (case a_all_jobs => k_is)
    (case l_all_jobs => k_is)
    (case c_all_jobs => k_is)
    (case k_all_jobs => k_is)
    (case a_least_free_number => k_is)
    (case l_least_free_number => k_is)
    (case c_least_free_number => k_is)
    (case k_least_free_number => k_is)
    (case a_add_waiting => k_is)
    (case l_add_waiting => k_is)
    (case c_add_waiting => k_is)
    (case k_add_waiting => k_is)
    (case a_make_job => k_is)
    (case l_make_job => k_is)
    (case c_make_job => k_is)
    (case k_make_job => k_is)
    (case a_make_waiting => k_is)
    (case l_make_waiting => k_is)
    (case c_make_waiting => k_is)
    (case k_make_waiting => k_is)
    (case a_first_lift => k_is)
    (case l_first_lift => k_is)
    (case c_first_lift => k_is)
    (case k_first_lift => k_is)
    (case a_free_at_last => k_is)
    (case l_free_at_last => k_is)
    (case c_free_at_last => k_is)
    (case k_free_at_last => k_is)
    (case a_job_from => k_is)
    (case l_job_from => k_is)
    (case c_job_from => k_is)
    (case k_job_from => k_is)
    (case a_mould_is_used => k_is)
    (case l_mould_is_used => k_is)
    (case c_mould_is_used => k_is)
    (case k_mould_is_used => k_is)
    (case a_has_mould => k_is)
    (case l_has_mould => k_is)
    (case c_has_mould => k_is)
    (case k_has_mould => k_is)
    (case a_best_job => k_is)
    (case l_best_job => k_is)
    (case c_best_job => k_is)
    (case k_best_job => k_is)
    (case a_last_out => k_is)
    (case l_last_out => k_is)
    (case c_last_out => k_is)
    (case k_last_out => k_is)
    (case a_end_of_order => k_is)
    (case l_end_of_order => k_is)
    (case c_end_of_order => k_is)
    (case k_end_of_order => k_is)
    (case a_best_order => k_is)
    (case l_best_order => k_is)
    (case c_best_order => k_is)
    (case k_best_order => k_is)
    (case a_better_order => k_is)
    (case l_better_order => k_is)
    (case c_better_order => k_is)
    (case k_better_order => k_is)
    (case a_tell_over => k_is)
    (case l_tell_over => k_is)
    (case c_tell_over => k_is)
    (case k_tell_over => k_is)
    (case a_tell_crane => k_is)
    (case l_tell_crane => k_is)
    (case c_tell_crane => k_is)
    (case k_tell_crane => k_is)
    (case a_part_of_job => k_is)
    (case l_part_of_job => k_is)
    (case c_part_of_job => k_is)
    (case k_part_of_job => k_is)
    (case a_tell_inside => k_is)
    (case l_tell_inside => k_is)
    (case c_tell_inside => k_is)
    (case k_tell_inside => k_is)
    (case a_tell_free_at => k_is)
    (case l_tell_free_at => k_is)
    (case c_tell_free_at => k_is)
    (case k_tell_free_at => k_is)
    (case a_tell_lifts => k_is)
    (case l_tell_lifts => k_is)
    (case c_tell_lifts => k_is)
    (case k_tell_lifts => k_is)
    (case a_count_used => k_is)
    (case l_count_used => k_is)
    (case c_count_used => k_is)
    (case k_count_used => k_is)
    (case a_tell_idle => k_is)
    (case l_tell_idle => k_is)
    (case c_tell_idle => k_is)
    (case k_tell_idle => k_is)
    (case a_tell_job => k_is)
    (case l_tell_job => k_is)
    (case c_tell_job => k_is)
    (case k_tell_job => k_is)
    (case a_tell_waiting => k_is)
    (case l_tell_waiting => k_is)
    (case c_tell_waiting => k_is)
    (case k_tell_waiting => k_is)
    (case a_tell_state => k_is)
    (case l_tell_state => k_is)
    (case c_tell_state => k_is)
    (case k_tell_state => k_is)
    (case a_start_anew => k_is)
    (case l_start_anew => k_is)
    (case c_start_anew => k_is)
    (case k_start_anew => k_is)
    (case a_add_mould => k_is)
    (case l_add_mould => k_is)
    (case c_add_mould => k_is)
    (case k_add_mould => k_is)
    (case a_add_blade => k_is)
    (case l_add_blade => k_is)
    (case c_add_blade => k_is)
    (case k_add_blade => k_is)
    (case a_drop_blade => k_is)
    (case l_drop_blade => k_is)
    (case c_drop_blade => k_is)
    (case k_drop_blade => k_is)
    (case a_tell_best => k_is)
    (case l_tell_best => k_is)
    (case c_tell_best => k_is)
    (case k_tell_best => k_is)
    (case a_put_into_best => k_is)
    (case l_put_into_best => k_is)
    (case c_put_into_best => k_is)
    (case k_put_into_best => k_is)
    (case a_put_blade => k_is)
    (case l_put_blade => k_is)
    (case c_put_blade => k_is)
    (case k_put_blade => k_is)
    (case a_put_blade_at => k_is)
    (case l_put_blade_at => k_is)
    (case c_put_blade_at => k_is)
    (case k_put_blade_at => k_is)
    (case a_cancel_job => k_is)
    (case l_cancel_job => k_is)
    (case c_cancel_job => k_is)
    (case k_cancel_job => k_is)
    (case a_pass_by => k_is)
    (case l_pass_by => k_is)
    (case c_pass_by => k_is)
    (case k_pass_by => k_is)
    (case a_can_be_put => k_is)
    (case l_can_be_put => k_is)
    (case c_can_be_put => k_is)
    (case k_can_be_put => k_is)
    (case a_tell_order => k_is)
    (case l_tell_order => k_is)
    (case c_tell_order => k_is)
    (case k_tell_order => k_is)
    (case a_all_can_be_put => k_is)
    (case l_all_can_be_put => k_is)
    (case c_all_can_be_put => k_is)
    (case k_all_can_be_put => k_is)
    (case a_tell_plan => k_is)
    (case l_tell_plan => k_is)
    (case c_tell_plan => k_is)
    (case k_tell_plan => k_is)
    (case a_follow_plan => k_is)
    (case l_follow_plan => k_is)
    (case c_follow_plan => k_is)
    (case k_follow_plan => k_is)
    (case a_count_given => k_is)
    (case l_count_given => k_is)
    (case c_count_given => k_is)
    (case k_count_given => k_is)
    (case a_reply_to => k_is)
    (case l_reply_to => k_is)
    (case c_reply_to => k_is)
    (case k_reply_to => k_is)
    (case a_answers => k_is)
    (case l_answers => k_is)
    (case c_answers => k_is)
    (case k_answers => k_is)
    (case g_LONGEST_LIFT => k_is)
    (case g_LONGEST_CLEAN => k_is)
    (case g_HIGHEST_KIND => k_is)
    (case g_LONGEST_IN_MOULD => k_is)
    (case g_MOST_MOULDS => k_is)
    (case g_MOST_WAITING => k_is)
    (case g_MOST_JOBS => k_is)
    (case g_FARTHEST_AHEAD => k_is)
    (case g_LONGEST_PASS => k_is)
    (case g_LAST_MINUTE => k_is)
    (case g_NONE_SUCH => k_is)
    (case g_NOT_STARTED => k_is)
    (case g_BEGUN => k_is)
    (case g_IN_USE => k_is)
    (case g_OUT_OF_RANGE => k_is)
    (case g_FULL => k_is)
    (case g_NOT_POSSIBLE => k_is)
    (case g_NOT_IN_USE => k_is)
    (case g_NOT_READY => k_is)
    (case g_WAITS_FOR_CRANE => k_is)
    (case g_BEING_LIFTED => k_is)
    (case g_BEING_CLEANED => k_is)
    (case g_START => k_is)
    (case g_ORDER => k_is)
    (case aT_TELLINGS => k_is)
    (case lT_TELLINGS => k_is)
    (case aT_REPLIES => k_is)
    (case lT_REPLIES => k_is)
    (case aT_GIVEN_COUNTS => k_is)
    (case lT_GIVEN_COUNTS => k_is)
    (case b_all => k_is)
    (case b_enumerate => k_is)
    (case b_len => k_is)
    (case b_list => k_is)
    (case b_max => k_is)
    (case b_min => k_is)
    (case b_set => k_is)
    (case b_sorted => k_is)
    (case b_sum => k_is)
  case S =>
    intro K H xs a hO hwi hask hx
    cases hx with
    | cons h1 h2 =>
      cases h2
      cases h1 with
      | lst hs ha =>
        have e := L2.ints_dw a.1 _ ha
        subst e
        have q : ((Codec.inLen 0 30000 a.1 && a.1.all (Codec.inInt 0 4294967295)) && true) = true := hwi
        rw [Bool.and_eq_true, Bool.and_eq_true] at q
        refine ⟨_, a.1, rfl, hs, fun x hx => ?_, hask, fun H' p hp => .lst (L2.SqL.of hp) (L2.dw_ints _)⟩
        have := List.all_eq_true.mp q.1.2 x hx
        exact (Codec.inInt_iff.mp this).1
#print axioms PySem.Challenge.cw_bladecrane_s01_answers_holds
