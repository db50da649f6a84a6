import PyProof.Rows.All
import Wide.All
import OpenK.AllK
import Wide.FinOn
import PyProof.EqAt
import PyProof.EqKinds
import PyProof.TupleCall
import Lean
import KE.KDictList
import PyProof.MaxThree
import KE.LcSums
import PyProof.Rows.FactsN_abs
import PyProof.FactsAll.list_3
import PyProof.SeqI3
import PyProof.EnumIter
import PyProof.EnumMake
import PyProof.EnumFor
import PyProof.ZipIter
import PyProof.FactsAll.zip_1
import PyProof.DictIter
import PyProof.MinMaxWalk
import PyProof.Rows.TupDisplay
import PySem.Challenge.RW_whistlebook_k06_roster
-- CHANGE: your row's module here, as the last of these rows
set_option Elab.async false
set_option linter.all false
set_option maxRecDepth 100000
/-! THE HAND LAYER, for ints, bools, texts, own classes, LISTS and tuples (index, slices, in, append, pop ..), calls, loops. Paste it whole ahead of your own text; what your proof does not reach may be deleted. -/
namespace L2
open PySem PySem.Spec PyProof.Rows
/-- a key: an int or a str -/
abbrev Key := Sum Int Str
def keyIs : Key → Value → Bool
  | .inl k, v => Value.isInt k v
  | .inr x, v => Value.isStrOf x v
def keyH (w : World) : Key → Int
  | .inl k => hashInt k
  | .inr x => hashStr w x
theorem keyIs_shape : ∀ {k : Key} {v : Value}, keyIs k v = true → (∃ i t, k = Sum.inl i ∧ v = Value.int i t) ∨ (∃ x t, k = Sum.inr x ∧ v = Value.str x t)
  | .inl i, v, h => by
    obtain ⟨t, e⟩ := Value.isInt_shape (k := i) (v := v) h
    exact .inl ⟨i, t, rfl, e⟩
  | .inr x, v, h => by
    obtain ⟨t, e⟩ := Value.isStrOf_shape (x := x) (v := v) h
    exact .inr ⟨x, t, rfl, e⟩
theorem keyIs_int (i : Int) (t : Tok) : keyIs (.inl i) (.int i t) = true := by simp [keyIs, Value.isInt]
theorem keyIs_str (x : Str) (t : Tok) : keyIs (.inr x) (.str x t) = true := by simp [keyIs, Value.isStrOf]
theorem key_ll (a b : Int) : decide ((Sum.inl a : Key) = Sum.inl b) = (a == b) := by
  by_cases e : a = b
  · subst e; simp
  · have h : ¬ (Sum.inl a : Key) = Sum.inl b := fun q => e (Sum.inl.inj q)
    rw [decide_eq_false h]
    exact (beq_eq_false_iff_ne.mpr e).symm
theorem key_rr (a b : Str) : decide ((Sum.inr a : Key) = Sum.inr b) = decide (a = b) := by
  by_cases e : a = b
  · subst e; simp
  · have h : ¬ (Sum.inr a : Key) = Sum.inr b := fun q => e (Sum.inr.inj q)
    rw [decide_eq_false h, decide_eq_false e]
theorem key_lr (a : Int) (b : Str) : decide ((Sum.inl a : Key) = Sum.inr b) = false := decide_eq_false (fun q => nomatch q)
theorem key_rl (a : Str) (b : Int) : decide ((Sum.inr a : Key) = Sum.inl b) = false := decide_eq_false (fun q => nomatch q)
def mixKind (prog : Program) (w : World) : PySem.KeyKind prog w Key where
  is := keyIs
  hash := keyH w
  inj := fun v a b ha hb => by
    rcases keyIs_shape ha with ⟨i, t, rfl, rfl⟩ | ⟨x, t, rfl, rfl⟩
    · rcases keyIs_shape hb with ⟨j, u, rfl, e⟩ | ⟨y, u, rfl, e⟩
      · injection e with e1 _; rw [e1]
      · exact nomatch e
    · rcases keyIs_shape hb with ⟨j, u, rfl, e⟩ | ⟨y, u, rfl, e⟩
      · exact nomatch e
      · injection e with e1 _; rw [e1]
  byValue := fun k v h => by
    rcases keyIs_shape h with ⟨i, t, rfl, rfl⟩ | ⟨x, t, rfl, rfl⟩ <;> rfl
  pyHash := fun hv h => by
    rcases keyIs_shape hv with ⟨i, t, rfl, rfl⟩ | ⟨x, t, rfl, rfl⟩
    · exact wpAny_pyHash_int h
    · exact wpAny_pyHash_str h
  eqBool := fun hu hv h => by
    rcases keyIs_shape hu with ⟨i, t, rfl, rfl⟩ | ⟨x, t, rfl, rfl⟩
    · rcases keyIs_shape hv with ⟨j, u, rfl, rfl⟩ | ⟨y, u, rfl, rfl⟩
      · rw [key_ll] at h; exact wpAny_eqBool_int h
      · rw [key_lr] at h; exact SeqAt.EqAt.int_str i t y u _ _ _ _ h
    · rcases keyIs_shape hv with ⟨j, u, rfl, rfl⟩ | ⟨y, u, rfl, rfl⟩
      · rw [key_rl] at h; exact SeqAt.EqAt.str_int x t j u _ _ _ _ h
      · rw [key_rr] at h; exact wpAny_eqBool_str h
  «strs» := fun k x t v h => by
    rcases keyIs_shape h with ⟨i, u, rfl, e⟩ | ⟨y, u, rfl, e⟩
    · exact nomatch e
    · injection e with e1 _
      subst e1
      cases v <;> rfl
theorem mixKind_int (prog : Program) (w : World) (i : Int) (t : Tok) : (mixKind prog w).is (.inl i) (.int i t) = true := keyIs_int i t
theorem mixKind_str (prog : Program) (w : World) (x : Str) (t : Tok) : (mixKind prog w).is (.inr x) (.str x t) = true := keyIs_str x t
end L2
namespace L2
open PySem PySem.Spec PyProof.Rows
/-- a value, without the heap -/
inductive V where
  | non | bl (b : Bool) | int (i : Int) | str (x : Str) | byt (b : Array UInt8) | flt (b : UInt64) | ref (a : Addr) | ty (n : String)
  deriving DecidableEq
def RelV : V → Value → Prop
  | .non, u => u = Value.none
  | .bl b, u => u = Value.bool b
  | .int i, u => ∃ t, u = Value.int i t
  | .str x, u => ∃ t, u = Value.str x t
  | .byt b, u => ∃ t, u = Value.bytes b t
  | .flt b, u => ∃ t, u = Value.float b t
  | .ref a, u => u = Value.ref a
  | .ty n, u => u = Value.type n
abbrev Vals : List V → List Value → Prop := Paired RelV
theorem Vals.length (r : Vals xs us) : xs.length = us.length := Paired.length r
theorem Vals.get : ∀ {xs : List V} {us : List Value} {i : Nat} {x : V}, Vals xs us → xs[i]? = some x → ∃ u, us[i]? = some u ∧ RelV x u
  | _, _, _, _, .nil, e => by simp at e
  | _, _, 0, _, .cons r _, e => by simp at e; subst e; exact ⟨_, rfl, r⟩
  | _, _, i + 1, x, .cons _ t, e => by
    obtain ⟨u, h1, h2⟩ := Vals.get (i := i) (x := x) t (by simpa using e)
    exact ⟨u, by simpa using h1, h2⟩
theorem Vals.append : ∀ {xs ys : List V} {us ws : List Value}, Vals xs us → Vals ys ws → Vals (xs ++ ys) (us ++ ws)
  | _, _, _, _, .nil, s => s
  | _, _, _, _, .cons r t, s => .cons r (Vals.append t s)
def RelO : Option V → Option Value → Prop
  | some v, some u => RelV v u
  | none, none => True
  | _, _ => False
def KV {κ : Type} : List (κ × V) → List (κ × Value) → Prop := Paired fun (p : κ × V) (q : κ × Value) => p.1 = q.1 ∧ RelV p.2 q.2
/-- a key of a dict (00_mix): an int or a text -/
def kV : Key → V
  | .inl i => .int i
  | .inr x => .str x
/-- what stands at a tracked address -/
inductive HO where
  /-- a list -/
  | lst (xs : List V)
  /-- a tuple (never changes) -/
  | tup (xs : List V)
  /-- a dict whose keys are ints and texts; one whose keys are tuples of ints and texts (the empty one is both) -/
  | dK (kvs : List (Key × V)) | dT (kvs : List (List Key × V))
  /-- a set of ints: its members, its size -/
  | set (S : Int → Bool) (n : Nat)
  /-- an instance of the class at C, its dict at dx, its attributes -/
  | ins (C dx : Addr) (fs : List (Str × V))
  /-- the dict of the instance at x -/
  | own (x : Addr)
  /-- the dict of an exception -/
  | xd (fs : List (Str × V))
  /-- a bound method, f of x -/
  | met (f x : Addr)
  /-- a range object lo, lo + 1, .. below hi -/
  | rng (lo hi : Int)
  /-- a thing that is known to the object (the script; a dict while a loop walks it): read, never written while it is so -/
  | frz (o : Obj) (u : HO)
  /-- a code object's table -/
  | tbl (ps : Array Value)
  /-- any other thing, by what is true of its one object (a def of one's own: SetO a S n := HO.ext fun h => ..) -/
  | ext (φ : Heap → Prop)
abbrev Hp := Addr → Option HO
def upd (H : Hp) (a : Addr) (o : HO) : Hp := fun b => if b = a then some o else H b
theorem upd_same : upd H a o a = some o := by unfold upd; rw [if_pos rfl]
theorem upd_ne (h : b ≠ a) : upd H a o b = H b := by unfold upd; rw [if_neg h]
theorem upd_upd : upd (upd H a o) a u = upd H a u := by
  funext b; unfold upd; split <;> rfl
/-- two objects of different content stand apart -/
theorem ne_of {H : Hp} {a b : Addr} {o u : HO} (h : H a = some o) (h' : H b = some u) (d : o ≠ u) : a ≠ b := by
  intro e; subst e; rw [h] at h'; exact d (Option.some.inj h')
theorem ne_of_none {H : Hp} {a b : Addr} {o : HO} (h : H a = some o) (h' : H b = none) : a ≠ b := by
  intro e; subst e; rw [h] at h'; cases h'
section
variable (P : Program) (w : World)
def ObjOk (H : Hp) (h : Heap) (a : Addr) : HO → Prop
  | .lst xs => xs.length ≤ sizeLine ∧ ∃ (its : List Value) (n : Nat), Vals xs its ∧ h.get? a = some { cls := .type "list", data := .seq its.toArray n }
  | .tup xs => xs.length ≤ sizeLine ∧ ∃ its : List Value, Vals xs its ∧ IsTup h a its.toArray
  | .dK kvs => kvs.length ≤ sizeLine ∧ (a == sysModules) = false ∧ ∃ vs, KV kvs vs ∧ h.DictOf (mixKind P w) a vs
  | .dT kvs => kvs.length ≤ sizeLine ∧ (a == sysModules) = false ∧ ∃ xs : List (List Key × Addr × Value),
      Paired (fun (p : List Key × V) (q : List Key × Addr × Value) => p.1 = q.1 ∧ H q.2.1 = some (.tup (p.1.map kV)) ∧ RelV p.2 q.2.2) kvs xs ∧
      ∃ o es ep, h.get? a = some o ∧ o.ExactDict ∧ o.data = .dict es ep ∧ es.toList = xs.map (entryOfKey (tupleKind (mixKind P w))) ∧ (xs.map (·.1)).Nodup
  | .set S n => h.SetOf (intKind P w) a S n
  | .ins C dx fs => H dx = some (.own a) ∧ fs.length ≤ 1000 ∧ dx ≠ a ∧ h.get? a = some (PySem.W.instObj C dx) ∧
      ∃ mA, h.Ns1 dx mA ∧ (∀ f, RelO (fs.lookup f) (mA f)) ∧ PySem.Within mA (fs.map (·.1))
  | .own _ => ∃ o, h.get? a = some o
  | .xd fs => ∃ mA, h.Ns1 a mA ∧ ∀ f, RelO (fs.lookup f) (mA f)
  | .rng lo hi => ∃ t u v, h.get? a = some { cls := .type "range", data := .fields #[.int lo t, .int hi u, .int 1 v] }
  | .frz o u => h.get? a = some o ∧ ObjOk H h a u
  | .tbl ps => h.get? a = some { cls := .none, data := .fields ps }
  | .met f x => h.get? a = some (PySem.W.methodObj (.ref f) (.ref x))
  | .ext φ => φ h ∧ (∃ o, h.get? a = some o) ∧ ∀ h1 h2 : Heap, φ h1 → (∀ o, h1.get? a = some o → h2.get? a = some o) → φ h2
/-- the abstract heap is held -/
def HOk (H : Hp) (h : Heap) : Prop := ∀ a o, H a = some o → ObjOk P w H h a o
end
section
variable {P : Program} {w : World} {H H' : Hp} {h h' : Heap} {a : Addr} {o : HO}
theorem ObjOk.lt (x : ObjOk P w H h a o) : a < h.objs.size := by
  cases o with
  | lst xs => obtain ⟨_, _, _, _, e⟩ := x; exact Heap.lt_size e
  | tup xs => obtain ⟨_, _, _, p⟩ := x; exact p.lt
  | dK kvs => obtain ⟨_, _, _, _, o, _, _, e, _⟩ := x; exact Heap.lt_size e
  | dT kvs => obtain ⟨_, _, _, _, o, _, _, e, _⟩ := x; exact Heap.lt_size e
  | set S n => obtain ⟨o, _, _, _, e, _⟩ := x; exact Heap.lt_size e
  | ins C dx fs => obtain ⟨_, _, _, e, _⟩ := x; exact Heap.lt_size e
  | own y => obtain ⟨_, e⟩ := x; exact Heap.lt_size e
  | xd fs => obtain ⟨_, ⟨_, _, _, e, _⟩, _⟩ := x; exact Heap.lt_size e
  | rng lo hi => obtain ⟨_, _, _, e⟩ := x; exact Heap.lt_size e
  | frz ob u => obtain ⟨e, _⟩ := x; exact Heap.lt_size e
  | tbl ps => exact Heap.lt_size (show h.get? a = some _ from x)
  | met f y => exact Heap.lt_size (show h.get? a = some _ from x)
  | ext φ => obtain ⟨_, ⟨_, e⟩, _⟩ := x; exact Heap.lt_size e
theorem Paired.mapP : ∀ {l₁ : List α} {l₂ : List β}, Paired F l₁ l₂ → (∀ a b, F a b → G a b) → Paired G l₁ l₂
  | _, _, .nil, _ => .nil
  | _, _, .cons r t, f => .cons (f _ _ r) (Paired.mapP t f)
/-- what an object's description leans on: its own object, its own dict, the tuples -/
theorem ObjOk.stay (x : ObjOk P w H h a o) (k : ∀ b u, (b = a ∨ H b = some (.own a)) → h.get? b = some u → h'.get? b = some u)
    (ho : ∀ b, H b = some (.own a) → H' b = some (.own a)) (ht : ∀ b xs, H b = some (.tup xs) → H' b = some (.tup xs)) : ObjOk P w H' h' a o := by
  induction o with
  | lst xs => obtain ⟨z, its, n, r, e⟩ := x; exact ⟨z, its, n, r, k _ _ (.inl rfl) e⟩
  | tup xs => obtain ⟨z, its, r, ob, e, c⟩ := x; exact ⟨z, its, r, ob, k _ _ (.inl rfl) e, c⟩
  | dK kvs => obtain ⟨z, y, vs, r, ob, es, ep, e, c⟩ := x; exact ⟨z, y, vs, r, ob, es, ep, k _ _ (.inl rfl) e, c⟩
  | dT kvs =>
    obtain ⟨z, y, xs, r, ob, es, ep, e, c⟩ := x
    exact ⟨z, y, xs, Paired.mapP r fun p q z => ⟨z.1, ht _ _ z.2.1, z.2.2⟩, ob, es, ep, k _ _ (.inl rfl) e, c⟩
  | set S n => obtain ⟨ob, es, ep, t, e, c⟩ := x; exact ⟨ob, es, ep, t, k _ _ (.inl rfl) e, c⟩
  | ins C dx fs =>
    obtain ⟨d, z, ne, e, mA, ⟨od, es, ep, e2, c⟩, r⟩ := x
    exact ⟨ho _ d, z, ne, k _ _ (.inl rfl) e, mA, ⟨od, es, ep, k _ _ (.inr d) e2, c⟩, r⟩
  | own y => obtain ⟨ob, e⟩ := x; exact ⟨ob, k _ _ (.inl rfl) e⟩
  | xd fs => obtain ⟨mA, ⟨od, es, ep, e, c⟩, r⟩ := x; exact ⟨mA, ⟨od, es, ep, k _ _ (.inl rfl) e, c⟩, r⟩
  | rng lo hi => obtain ⟨t, u, v, e⟩ := x; exact ⟨t, u, v, k _ _ (.inl rfl) e⟩
  | frz ob u ih => obtain ⟨e, q⟩ := x; exact ⟨k _ _ (.inl rfl) e, ih q⟩
  | tbl ps =>
    have e : h.get? a = some { cls := .none, data := .fields ps } := x
    show h'.get? a = some { cls := .none, data := .fields ps }
    exact k a _ (.inl rfl) e
  | met f y =>
    have e : h.get? a = some (PySem.W.methodObj (.ref f) (.ref y)) := x
    show h'.get? a = some (PySem.W.methodObj (.ref f) (.ref y))
    exact k a _ (.inl rfl) e
  | ext φ => obtain ⟨p, ⟨o, e⟩, st⟩ := x; exact ⟨st _ _ p fun o q => k _ _ (.inl rfl) q, ⟨o, k _ _ (.inl rfl) e⟩, st⟩
theorem HOk.lt (x : HOk P w H h) (e : H a = some o) : a < h.objs.size := (x a o e).lt
theorem HOk.fresh (x : HOk P w H h) (e : h.objs.size ≤ a) : H a = none := by
  cases q : H a with
  | none => rfl
  | some u => exact absurd (Nat.lt_of_lt_of_le (x.lt q) e) (Nat.lt_irrefl _)
/-- every object of the heap is kept -/
theorem HOk.kept (x : HOk P w H h) (k : ∀ b u, h.get? b = some u → h'.get? b = some u) : HOk P w H h' := fun a o e =>
  (x a o e).stay (fun b u _ q => k b u q) (fun _ q => q) fun _ _ q => q
/-- a new object is laid and tracked -/
theorem HOk.laid (x : HOk P w H h) (k : ∀ b u, h.get? b = some u → h'.get? b = some u) (hp : h.objs.size ≤ a) (new : ObjOk P w (upd H a o) h' a o) : HOk P w (upd H a o) h' := fun b u e => by
  have hn := x.fresh hp
  by_cases hb : b = a
  · subst hb; rw [upd_same] at e; cases e; exact new
  · rw [upd_ne hb] at e
    exact (x b u e).stay (fun c v _ q => k c v q) (fun c q => by rw [upd_ne (ne_of_none q hn)]; exact q) fun c xs q => by rw [upd_ne (ne_of_none q hn)]; exact q
end
/-- what may be read as u: it is u, or a known u -/
def Rd (H : Hp) (a : Addr) (u : HO) : Prop := H a = some u ∨ ∃ o, H a = some (.frz o u)
theorem Rd.ok (r : Rd H a u) (x : HOk P w H h) : ObjOk P w H h a u := by
  rcases r with r | ⟨o, r⟩
  · exact x a u r
  · obtain ⟨_, q⟩ := x a _ r
    exact q
/-- what may be written -/
def Mut : Option HO → Prop
  | some (.lst _) => True
  | some (.dK _) => True
  | some (.dT _) => True
  | some (.set _ _) => True
  | some (.ins _ _ _) => True
  | some (.ext _) => True
  | _ => False
section
variable {P : Program} {w : World} {H : Hp} {h h' : Heap} {x e : Addr} {o' : HO}
/-- the object at e is changed: x itself, or the dict of the instance x -/
theorem HOk.write (ok : HOk P w H h) (mu : Mut (H x)) (he : e = x ∨ H e = some (.own x)) (k : ∀ b u, b ≠ e → h.get? b = some u → h'.get? b = some u) (heo : ∃ u, h'.get? e = some u)
    (new : ObjOk P w (upd H x o') h' x o') : HOk P w (upd H x o') h' := fun b u q => by
  have nown : ∀ c y, H c = some (.own y) → c ≠ x := fun c y r z => by subst z; rw [r] at mu; exact mu
  have ntup : ∀ c xs, H c = some (.tup xs) → c ≠ x := fun c xs r z => by subst z; rw [r] at mu; exact mu
  by_cases hb : b = x
  · subst hb; rw [upd_same] at q; cases q; exact new
  · rw [upd_ne hb] at q
    by_cases hbe : b = e
    · have q' : H b = some (.own x) := by
        rcases he with z | z
        · exact absurd (hbe.trans z) hb
        · rw [hbe]; exact z
      rw [q] at q'; cases q'
      obtain ⟨v, hv⟩ := heo
      exact ⟨v, by rw [hbe]; exact hv⟩
    · refine (ok b u q).stay (fun c v hc r => k c v ?_ r) (fun c r => by rw [upd_ne (nown c b r)]; exact r) fun c xs r => by rw [upd_ne (ntup c xs r)]; exact r
      rcases hc with rfl | hc
      · exact hbe
      · rintro rfl
        rcases he with z | z
        · exact nown c b hc z
        · rw [hc] at z; cases z; exact hb rfl
end
/-! ### kept unless tracked; of the frames at fs (the callers') the slots may change (an exception that passes writes there); of the records at ex (iterators) nothing is said -/
structure Un (fs ex : List Addr) (H H' : Hp) (h h' : Heap) : Prop where
  keep : ∀ b o, h.get? b = some o → H b = none → b ∉ fs → b ∉ ex → h'.get? b = some o
  slot : ∀ b o, h.get? b = some o → H b = none → b ∈ fs → b ∉ ex → ∃ sl, h'.get? b = some { o with slots := sl }
  free : ∀ b o, h.get? b = some o → H b = none → b ∉ ex → H' b = none
  there : ∀ b o, h.get? b = some o → b ∉ ex → ∃ o', h'.get? b = some o'
  tups : ∀ b xs, H b = some (.tup xs) → H' b = some (.tup xs)
  frzs : ∀ b o u, H b = some (.frz o u) → H' b = some (.frz o u)
  tbls : ∀ b ps, H b = some (.tbl ps) → ∃ more, H' b = some (.tbl (ps ++ more))
section
variable {fs fs' ex ex' : List Addr} {H H1 H2 : Hp} {h h1 h2 h' : Heap} {a x e : Addr} {o : HO}
theorem Un.any (u : Un fs ex H H1 h h1) (q : h.get? b = some ob) (n : H b = none) (hx : b ∉ ex) : ∃ sl, h1.get? b = some { ob with slots := sl } := by
  by_cases hb : b ∈ fs
  · exact u.slot b ob q n hb hx
  · exact ⟨ob.slots, u.keep b ob q n hb hx⟩
theorem Un.kept (k : ∀ b u, h.get? b = some u → h'.get? b = some u) : Un fs ex H H h h' :=
  ⟨fun b ob q _ _ _ => k b ob q, fun b ob q _ _ _ => ⟨ob.slots, k b ob q⟩, fun _ _ _ n _ => n, fun b ob q _ => ⟨ob, k b ob q⟩, fun _ _ q => q, fun _ _ _ q => q, fun _ ps q => ⟨#[], by rw [q]; simp⟩⟩
theorem Un.refl : Un fs ex H H h h := Un.kept fun _ _ q => q
theorem Un.laid (k : ∀ b u, h.get? b = some u → h'.get? b = some u) (hp : h.objs.size ≤ a) (hn : H a = none) : Un fs ex H (upd H a o) h h' where
  keep := fun b u q _ _ _ => k b u q
  slot := fun b u q _ _ _ => ⟨u.slots, k b u q⟩
  free := fun b u q n _ => by rw [upd_ne (Nat.ne_of_lt (Nat.lt_of_lt_of_le (Heap.lt_size q) hp))]; exact n
  there := fun b u q _ => ⟨u, k b u q⟩
  tups := fun b xs q => by rw [upd_ne (ne_of_none q hn)]; exact q
  frzs := fun b u xs q => by rw [upd_ne (ne_of_none q hn)]; exact q
  tbls := fun b ps q => ⟨#[], by rw [upd_ne (ne_of_none q hn), q]; simp⟩
theorem Un.write (mu : Mut (H x)) (he : e = x ∨ H e = some (.own x)) (k : ∀ b u, b ≠ e → h.get? b = some u → h'.get? b = some u) (heo : ∃ u, h'.get? e = some u) : Un fs ex H (upd H x o) h h' := by
  have hx : ∀ b, H b = none → b ≠ x := fun b n z => by subst z; rw [n] at mu; exact mu
  have hb : ∀ b, H b = none → b ≠ e := fun b n z => by
    subst z
    rcases he with r | r
    · exact hx b n r
    · rw [n] at r; cases r
  have hm : ∀ b u, H b = some u → ¬ Mut (some u) → b ≠ x := fun b u q nm z => by subst z; rw [q] at mu; exact nm mu
  refine ⟨fun b u q n _ _ => k b u (hb b n) q, fun b u q n _ _ => ⟨u.slots, k b u (hb b n) q⟩, fun b u q n _ => by rw [upd_ne (hx b n)]; exact n, fun b u q _ => ?_,
    fun b xs q => by rw [upd_ne (hm b _ q fun z => z)]; exact q, fun b u xs q => by rw [upd_ne (hm b _ q fun z => z)]; exact q, fun b ps q => ⟨#[], by rw [upd_ne (hm b _ q fun z => z), q]; simp⟩⟩
  by_cases hbe : b = e
  · subst hbe; exact heo
  · exact ⟨u, k b u hbe q⟩
end
/-! ### the heap without what is tracked -/
def trk (h : Heap) (H : Hp) : List Addr := (List.range h.objs.size).filter fun a => (H a).isSome
def hidT (h : Heap) (H : Hp) : Heap := PySem.W.hideAll h (trk h H)
theorem hidT_size (h : Heap) (H : Hp) : (hidT h H).objs.size = h.objs.size := PySem.W.hideAll_size _ _
theorem hidT_get (e : h.get? b = some o) (n : H b = none) : (hidT h H).get? b = some o :=
  PySem.W.hideAll_get _ e fun hm => by
    have q : (H b).isSome = true := (List.mem_filter.mp hm).2
    rw [n] at q; simp at q
theorem of_hidT (e : (hidT h H).get? b = some o) : h.get? b = some o ∧ H b = none := by
  have e' : h.get? b = some o := PySem.W.of_hideAll (trk h H) e
  refine ⟨e', ?_⟩
  cases q : H b with
  | none => rfl
  | some x =>
    have hm : b ∈ trk h H := List.mem_filter.mpr ⟨List.mem_range.mpr (Heap.lt_size e'), by simp [q]⟩
    have z : (hidT h H).get? b = none := PySem.W.hideAll_none (trk h H) hm
    rw [z] at e; cases e
/-! ### OpenK's ledger, filled with every new object but one -/
end L2
namespace L2
open PySem PySem.Spec PyProof.Rows
/-- the module's facts, over the base: the heap at the law's entry without what is tracked there -/
structure Mod (K : PySem.W.Frag) (mg : Str → Option Value) (base : Heap) : Prop where
  kin : K.In base
  glob : base.Ns mainGlobals mg
  blt : ∃ mb, base.Ns builtinsNs mb ∧ ∀ x : Str, x ≠ "__name__" → mb x = bootBuiltins x
  nolimit : base.NoLimit
/-- the context: a def's body (or a comprehension's block) running. base: fixed through the whole law; s₀, H₀: the entry; outer: the frames whose slots others may change (a def's callers); stack: all frames that run;
   ex: iterators that were made ahead of the entry and are walked here (a comprehension's); fn: the names whose cells were made at the entry (a def: all; a comprehension's block: its own); calm: not within an except suite; pn: pins that every state bears; xe: what is wanted of an exception that leaves the code -/
structure Cx where
  prog : Program
  w : World
  K : PySem.W.Frag
  mg : Str → Option Value
  base : Heap
  A : Around
  N : List Str
  s₀ : Shared
  H₀ : Hp
  env : Env
  outer : List Env
  stack : List Env
  ex : List Addr
  fn : Str → Bool
  calm : Bool
  pn : List (Addr × Obj)
  xe : Value → Shared → Prop
  lk : List (Option V) := []
/-- the callers' frames -/
def frs (l : List Env) : List Addr := l.filterMap (·.frame)
abbrev Cx.fs (X : Cx) : List Addr := frs X.outer
def Vis (sc : Scope) (x : Str) : Prop := sc.names.lookup x = some .local ∨ sc.names.lookup x = some .cell ∨ sc.names.lookup x = some .free
def Loc (sc : Scope) (x : Str) : Prop := sc.names.lookup x = some .local ∨ sc.names.lookup x = some .cell
def Look (env : Env) (h : Heap) (m : Str → Option Value) (x : Str) (u : Value) : Prop :=
  (env.kindOf x = some .local ∧ m x = some u) ∨ ((env.kindOf x = some .cell ∨ env.kindOf x = some .free) ∧ ∃ c, env.cells.lookup x = some c ∧ h.IsCell c (some u))
structure Cx.Ok (X : Cx) : Prop where
  mod : Mod X.K X.mg X.base
  kind : X.env.scope.kind = .function
  glob : X.env.globals = mainGlobals
  blt : X.env.builtins = builtinsNs
  above : X.s₀.heap.objs.size ≤ X.env.locals
  inj : ∀ x y c, X.env.cells.lookup x = some c → X.env.cells.lookup y = some c → x = y
  has : ∀ x, (X.env.kindOf x = some .cell ∨ X.env.kindOf x = some .free) → ∃ c, X.env.cells.lookup x = some c
  cab : ∀ x c, X.fn x = true → X.env.cells.lookup x = some c → X.s₀.heap.objs.size ≤ c
  hd : X.calm = true → X.A.handled = none
  frames : X.A.frames = some X.stack
  stk : X.stack = X.outer ∨ (X.stack = X.env :: X.outer ∧ X.env.frame = some X.env.locals)
  exf : ∀ b ∈ X.ex, b ≠ X.env.locals ∧ ∀ x c, X.env.cells.lookup x = some c → c ≠ b
  bs : ∀ b o, X.base.get? b = some o → X.s₀.heap.get? b = some o ∧ X.H₀ b = none
  bsz : X.base.objs.size ≤ X.s₀.heap.objs.size
  noex : ∀ b o, X.base.get? b = some o → b ∉ X.ex
  exfs : ∀ b ∈ X.ex, b ∉ X.fs
  funs : X.s₀.heap.FunFrames X.base X.outer
  frf : ∀ b ∈ X.fs, X.H₀ b = none
structure Inv (X : Cx) (pins : List (Addr × Obj)) (σ : List (Option V)) (H : Hp) (s : Shared) : Prop where
  ok : X.Ok
  os : s.os = X.s₀.os
  bare : AllBare s.gens
  base : Un X.fs X.ex X.H₀ H X.s₀.heap s.heap
  loc : ∃ m, s.heap.Ns X.env.locals m ∧ ∀ (i : Nat) (x : Str) (v : V), X.N[i]? = some x → (σ[i]? = some (some v) ∨ X.lk[i]? = some (some v)) → Vis X.env.scope x → ∃ u, RelV v u ∧ Look X.env s.heap m x u
  cell : ∀ x c, X.env.cells.lookup x = some c → ∃ v, s.heap.IsCell c v
  free : H X.env.locals = none
  freeC : ∀ x c, X.env.cells.lookup x = some c → H c = none
  pin : ∀ p ∈ X.pn ++ pins, s.heap.get? p.1 = some p.2 ∧ H p.1 = none ∧ p.1 ≠ X.env.locals ∧ p.1 ∉ X.fs ∧ ∀ v, p.2.data ≠ .cell v
  hok : HOk X.prog X.w H s.heap
  len : σ.length = X.N.length
section
variable {X : Cx} {pins : List (Addr × Obj)} {σ : List (Option V)} {H H' : Hp} {s : Shared} {h' : Heap}
theorem Cx.Ok.nofr (ok : X.Ok) (e : X.base.get? b = some o) : b ∉ X.fs := fun hb => by
  have := (ok.funs.mem hb).1
  rw [e] at this; cases this
theorem Inv.bs (I : Inv X pins σ H s) : ∀ b o, X.base.get? b = some o → s.heap.get? b = some o ∧ H b = none := fun b o e =>
  ⟨I.base.keep b o (I.ok.bs b o e).1 (I.ok.bs b o e).2 (I.ok.nofr e) (I.ok.noex b o e), I.base.free b o (I.ok.bs b o e).1 (I.ok.bs b o e).2 (I.ok.noex b o e)⟩
theorem Inv.bk (I : Inv X pins σ H s) : ∀ b o, X.base.get? b = some o → s.heap.get? b = some o := fun b o e => (I.bs b o e).1
theorem Inv.mod (I : Inv X pins σ H s) : Mod X.K X.mg X.base := I.ok.mod
theorem Inv.kIn (I : Inv X pins σ H s) : X.K.In s.heap := I.ok.mod.kin.keeps I.bk
theorem Inv.lt (I : Inv X pins σ H s) : X.env.locals < s.heap.objs.size := let ⟨_, hn, _⟩ := I.loc; hn.lt
theorem Inv.sz (I : Inv X pins σ H s) : X.s₀.heap.objs.size ≤ s.heap.objs.size := Nat.le_trans I.ok.above (Nat.le_of_lt I.lt)
theorem Inv.nofs (I : Inv X pins σ H s) (h : s.heap.objs.size ≤ a) : a ∉ X.fs := fun hb => by
  obtain ⟨_, o, ho, _⟩ := I.ok.funs.mem hb
  exact absurd (Nat.lt_of_lt_of_le (Heap.lt_size ho) (Nat.le_trans I.sz h)) (Nat.lt_irrefl _)
theorem Inv.cne (I : Inv X pins σ H s) : ∀ x c, X.env.cells.lookup x = some c → c ≠ X.env.locals := fun x c e z => by
  obtain ⟨v, o, ho, hd⟩ := I.cell x c e
  obtain ⟨m, ⟨o', es, ep, ho', hd', _⟩, _⟩ := I.loc
  rw [z, ho'] at ho; cases ho; rw [hd'] at hd; cases hd
theorem Inv.funs (I : Inv X pins σ H s) : s.heap.FunFrames X.base X.outer := by
  have all : ∀ (l : List Env), (∀ b ∈ frs l, b ∈ X.fs) → X.s₀.heap.FunFrames X.base l → s.heap.FunFrames X.base l := by
    intro l
    induction l with
    | nil => intro _ _; trivial
    | cons env r ih =>
      intro hs hl
      obtain ⟨hk, ⟨L, o, hf, hn, ho, hd⟩, hr⟩ := hl
      have hL : L ∈ X.fs := hs L (by unfold frs; rw [List.filterMap_cons, hf]; exact List.mem_cons_self)
      obtain ⟨sl, e⟩ := I.base.slot L o ho (I.ok.frf L hL) hL fun z => I.ok.exfs L z hL
      exact ⟨hk, ⟨L, _, hf, hn, e, hd⟩, ih (fun b hb => hs b (by unfold frs; rw [List.filterMap_cons, hf]; exact List.mem_cons_of_mem _ hb)) hr⟩
  exact all X.outer (fun _ hb => hb) I.ok.funs
/-- the frames that run, for a call -/
theorem Inv.stack (I : Inv X pins σ H s) : s.heap.FunFrames X.base X.stack := by
  rcases I.ok.stk with e | ⟨e, hf⟩
  · rw [e]; exact I.funs
  · rw [e]
    obtain ⟨m, hn, _⟩ := I.loc
    refine .cons (by rw [I.ok.kind]; decide) hf hn ?_ I.funs
    exact Heap.get?_none_of_le (Nat.le_trans I.ok.bsz I.ok.above)
theorem Inv.stkSub (I : Inv X pins σ H s) : ∀ b ∈ frs X.stack, b ∈ X.env.locals :: X.fs := fun b hb => by
  rcases I.ok.stk with e | ⟨e, hf⟩
  · rw [e] at hb; exact List.mem_cons_of_mem _ hb
  · rw [e] at hb
    unfold frs at hb
    rw [List.filterMap_cons, hf] at hb
    exact hb
theorem Inv.stkFree (I : Inv X pins σ H s) : ∀ b ∈ frs X.stack, H b = none := fun b hb => by
  rcases List.mem_cons.mp (I.stkSub b hb) with e | hb
  · rw [e]; exact I.free
  · obtain ⟨_, o, ho, _⟩ := I.ok.funs.mem hb
    exact I.base.free b o ho (I.ok.frf b hb) fun z => I.ok.exfs b z hb
/-- THE STEP: the untracked objects but the frame and the records at ch are kept (the callers' frames up to slots), the frame's map is kept, the new abstract heap is held -/
theorem Inv.step {g' : Array GenState} {t' : Nat} {d' : Drawn} {ch : List Addr} (I : Inv X pins σ H s)
    (hch : ∀ b ∈ ch, (b ∈ X.ex ∨ X.s₀.heap.objs.size ≤ b) ∧ b ≠ X.env.locals ∧ (∀ x c, X.env.cells.lookup x = some c → c ≠ b) ∧ ∀ p ∈ X.pn ++ pins, p.1 ≠ b)
    (keep : ∀ b o, b ≠ X.env.locals → b ∉ X.fs → b ∉ ch → s.heap.get? b = some o → H b = none → h'.get? b = some o)
    (slot : ∀ b o, b ≠ X.env.locals → b ∈ X.fs → b ∉ ch → s.heap.get? b = some o → H b = none → ∃ sl, h'.get? b = some { o with slots := sl }) (free : ∀ b o, b ∉ ch → s.heap.get? b = some o → H b = none → H' b = none)
    (there : ∀ b o, b ∉ ch → s.heap.get? b = some o → ∃ o', h'.get? b = some o')
    (tups : ∀ b xs, H b = some (.tup xs) → H' b = some (.tup xs)) (frzs : ∀ b o u, H b = some (.frz o u) → H' b = some (.frz o u)) (tbls : ∀ b ps, H b = some (.tbl ps) → ∃ more, H' b = some (.tbl (ps ++ more)))
    (ns : ∀ m, s.heap.Ns X.env.locals m → h'.Ns X.env.locals m) (hok : HOk X.prog X.w H' h') (hg : AllBare g') :
    Inv X pins σ H' { s with heap := h', gens := g', drawn := d', toks := t' } := by
  have neL : ∀ b o, X.s₀.heap.get? b = some o → b ≠ X.env.locals := fun b o e => Nat.ne_of_lt (Nat.lt_of_lt_of_le (Heap.lt_size e) I.ok.above)
  have neC : ∀ b o, X.s₀.heap.get? b = some o → b ∉ X.ex → b ∉ ch := fun b o e hx hb => by
    rcases (hch b hb).1 with z | z
    · exact hx z
    · exact absurd (Nat.lt_of_lt_of_le (Heap.lt_size e) z) (Nat.lt_irrefl _)
  have cellK : ∀ x c, X.env.cells.lookup x = some c → ∀ v, s.heap.IsCell c v → h'.IsCell c v := fun x c e v ⟨o, ho, hd⟩ => by
    have nch : c ∉ ch := fun z => (hch c z).2.2.1 x c e rfl
    by_cases hc : c ∈ X.fs
    · obtain ⟨sl, q⟩ := slot c o (I.cne x c e) hc nch ho (I.freeC x c e)
      exact ⟨_, q, hd⟩
    · exact ⟨o, keep c o (I.cne x c e) hc nch ho (I.freeC x c e), hd⟩
  refine ⟨I.ok, I.os, hg, ⟨fun b o e n hb hx => ?_, fun b o e n hb hx => ?_, fun b o e n hx => ?_, fun b o e hx => ?_, fun b xs e => tups b xs (I.base.tups b xs e), fun b o xs e => frzs b o xs (I.base.frzs b o xs e), fun b ps e => ?_⟩, ?_, fun x c e => ?_, ?_, fun x c e => ?_, fun p hp => ?_, hok, I.len⟩
  · exact keep b o (neL b o e) hb (neC b o e hx) (I.base.keep b o e n hb hx) (I.base.free b o e n hx)
  · obtain ⟨sl, e1⟩ := I.base.slot b o e n hb hx
    obtain ⟨sl', e2⟩ := slot b _ (neL b o e) hb (neC b o e hx) e1 (I.base.free b o e n hx)
    exact ⟨sl', e2⟩
  · obtain ⟨o', e1⟩ := I.base.there b o e hx
    exact free b o' (neC b o e hx) e1 (I.base.free b o e n hx)
  · obtain ⟨o', e1⟩ := I.base.there b o e hx
    exact there b o' (neC b o e hx) e1
  · obtain ⟨m1, e1⟩ := I.base.tbls b ps e
    obtain ⟨m2, e2⟩ := tbls b _ e1
    exact ⟨m1 ++ m2, by rw [e2, Array.append_assoc]⟩
  · obtain ⟨m, hn, hl⟩ := I.loc
    refine ⟨m, ns m hn, fun i x v e1 e2 e3 => ?_⟩
    obtain ⟨u, r, l⟩ := hl i x v e1 e2 e3
    refine ⟨u, r, ?_⟩
    rcases l with l | ⟨k, c, e, z⟩
    · exact .inl l
    · exact .inr ⟨k, c, e, cellK x c e _ z⟩
  · obtain ⟨v, z⟩ := I.cell x c e
    exact ⟨v, cellK x c e v z⟩
  · obtain ⟨m, ⟨o, _, _, ho, _⟩, _⟩ := I.loc
    exact free _ o (fun z => (hch _ z).2.1 rfl) ho I.free
  · obtain ⟨v, o, ho, hd⟩ := I.cell x c e
    exact free c o (fun z => (hch c z).2.2.1 x c e rfl) ho (I.freeC x c e)
  · obtain ⟨e, n, ne, nf, d⟩ := I.pin p hp
    have nch : p.1 ∉ ch := fun z => (hch p.1 z).2.2.2 p hp rfl
    exact ⟨keep p.1 p.2 ne nf nch e n, free p.1 p.2 nch e n, ne, nf, d⟩
/-- .. where the frame's own object is kept too -/
theorem Inv.un {t' : Nat} (I : Inv X pins σ H s) (u : Un X.fs [] H H' s.heap h') (hok : HOk X.prog X.w H' h') : Inv X pins σ H' { s with heap := h', toks := t' } := by
  obtain ⟨m, ⟨o, es, ep, ho, r⟩, _⟩ := id I.loc
  obtain ⟨sl, hL⟩ := u.any ho I.free (by simp)
  exact I.step (g' := s.gens) (d' := s.drawn) (ch := []) (fun _ z => nomatch z) (fun b o _ hb _ e n => u.keep b o e n hb (by simp)) (fun b o _ hb _ e n => u.slot b o e n hb (by simp)) (fun b o _ e n => u.free b o e n (by simp)) (fun b o _ e => u.there b o e (by simp)) u.tups u.frzs u.tbls (fun m' hm => by
    obtain ⟨o', es', ep', ho', r'⟩ := hm
    rw [ho] at ho'; cases ho'
    exact ⟨_, es', ep', hL, r'⟩) hok I.bare
/-- behind a call (or a comprehension's block): the slots of this frame may have changed too, the records at ch may have turned -/
theorem Inv.call {g' : Array GenState} {t' : Nat} {d' : Drawn} {ch : List Addr} (I : Inv X pins σ H s) (u : Un (frs X.stack) ch H H' s.heap h') (hok : HOk X.prog X.w H' h') (hg : AllBare g')
    (hch : ∀ b ∈ ch, (b ∈ X.ex ∨ X.s₀.heap.objs.size ≤ b) ∧ b ≠ X.env.locals ∧ (∀ x c, X.env.cells.lookup x = some c → c ≠ b) ∧ ∀ p ∈ X.pn ++ pins, p.1 ≠ b) :
    Inv X pins σ H' { s with heap := h', gens := g', drawn := d', toks := t' } := by
  obtain ⟨m, ⟨o, es, ep, ho, r⟩, _⟩ := id I.loc
  obtain ⟨sl, hL⟩ := u.any ho I.free fun z => (hch _ z).2.1 rfl
  exact I.step (ch := ch) hch (fun b o hL hb hc e n => u.keep b o e n (fun z => (List.mem_cons.mp (I.stkSub b z)).elim hL hb) hc) (fun b o _ _ hc e n => u.any e n hc) (fun b o hc e n => u.free b o e n hc) (fun b o hc e => u.there b o e hc) u.tups u.frzs u.tbls (fun m' hm => by
    obtain ⟨o', es', ep', ho', r'⟩ := hm
    rw [ho] at ho'; cases ho'
    exact ⟨_, es', ep', hL, r'⟩) hok hg
/-- an untracked record of ours (an iterator) has turned -/
theorem Inv.turned {t' : Nat} {it : Addr} (I : Inv X pins σ H s) (k : ∀ b o, b ≠ it → s.heap.get? b = some o → h'.get? b = some o) (hn : H it = none) (hL : it ≠ X.env.locals)
    (h1 : it ∈ X.ex ∨ X.s₀.heap.objs.size ≤ it) (h2 : ∀ x c, X.env.cells.lookup x = some c → c ≠ it) (h3 : ∀ p ∈ X.pn ++ pins, p.1 ≠ it) : Inv X pins σ H { s with heap := h', toks := t' } := by
  have nit : ∀ b u, H b = some u → b ≠ it := fun b u e z => by rw [z, hn] at e; cases e
  refine I.step (g' := s.gens) (d' := s.drawn) (ch := [it]) (fun b hb => ?_) (fun b o _ _ hc e _ => k b o (fun z => hc (by simp [z])) e) (fun b o _ _ hc e _ => ⟨o.slots, k b o (fun z => hc (by simp [z])) e⟩) (fun _ _ _ _ n => n)
    (fun b o hc e => ⟨o, k b o (fun z => hc (by simp [z])) e⟩) (fun _ _ e => e) (fun _ _ _ e => e) (fun b ps e => ⟨#[], by rw [e]; simp⟩) (fun m hm => ?_) (fun b u e => ?_) I.bare
  · have e : b = it := by simpa using hb
    subst e
    exact ⟨h1, hL, h2, h3⟩
  · obtain ⟨o, es, ep, ho, r⟩ := hm
    exact ⟨o, es, ep, k _ o (Ne.symm hL) ho, r⟩
  · refine (I.hok b u e).stay (fun c v hc q => k c v ?_ q) (fun _ q => q) fun _ _ q => q
    rcases hc with z | z
    · rw [z]; exact nit b u e
    · exact nit c _ z
theorem Inv.tok (I : Inv X pins σ H s) (t : Nat) : Inv X pins σ H { s with toks := t } := I.un (h' := s.heap) (t' := t) Un.refl I.hok
/-- all objects kept -/
theorem Inv.kept (I : Inv X pins σ H s) (k : ∀ b u, s.heap.get? b = some u → h'.get? b = some u) : Inv X pins σ H { s with heap := h', toks := t' } := I.un (Un.kept k) (I.hok.kept k)
/-- a new object laid and tracked -/
theorem Inv.laid (I : Inv X pins σ H s) (k : ∀ b u, s.heap.get? b = some u → h'.get? b = some u) (hp : s.heap.objs.size ≤ a) (new : ObjOk X.prog X.w (upd H a o) h' a o) :
    Inv X pins σ (upd H a o) { s with heap := h', toks := t' } := I.un (Un.laid k hp (I.hok.fresh hp)) (I.hok.laid k hp new)
/-- an object written -/
theorem Inv.write (I : Inv X pins σ H s) (mu : Mut (H x)) (he : e = x ∨ H e = some (.own x)) (k : ∀ b u, b ≠ e → s.heap.get? b = some u → h'.get? b = some u) (heo : ∃ u, h'.get? e = some u)
    (new : ObjOk X.prog X.w (upd H x o) h' x o) : Inv X pins σ (upd H x o) { s with heap := h', toks := t' } := I.un (Un.write mu he k heo) (I.hok.write mu he k heo new)
theorem Inv.pins_of (I : Inv X pins σ H s) (h : ∀ p ∈ pins', s.heap.get? p.1 = some p.2 ∧ H p.1 = none ∧ p.1 ≠ X.env.locals ∧ p.1 ∉ X.fs ∧ ∀ v, p.2.data ≠ .cell v) : Inv X pins' σ H s :=
  ⟨I.ok, I.os, I.bare, I.base, I.loc, I.cell, I.free, I.freeC, fun p hp => (List.mem_append.mp hp).elim (fun z => I.pin p (List.mem_append_left _ z)) (h p), I.hok, I.len⟩
theorem nodup_ix {N : List Str} (hN : N.Nodup) {i j : Nat} {x : Str} (a : N[i]? = some x) (b : N[j]? = some x) : i = j := by
  obtain ⟨h1, e1⟩ := List.getElem?_eq_some_iff.mp a
  obtain ⟨h2, e2⟩ := List.getElem?_eq_some_iff.mp b
  exact (List.getElem_inj hN).mp (e1.trans e2.symm)
def StOk (X : Cx) (i : Nat) (x : Str) : Prop := (X.fn x = true ∨ X.env.scope.names.lookup x = some .local) ∧ ∀ v, X.lk[i]? ≠ some (some v)
theorem lk_nil {i : Nat} : ∀ v : V, ([] : List (Option V))[i]? ≠ some (some v) := fun _ h => by simp at h
/-- a name is stored; what changed -/
theorem store_ok2 {M : Model} {A : Around} {E : Value → Shared → Prop} {i : Nat} {x : Str} {v : V} {u : Value} {Q : Unit → Shared → Prop} (I : Inv X pins σ H s) (hN : X.N.Nodup) (hi : X.N[i]? = some x) (hx : Loc X.env.scope x) (r : RelV v u)
    (h : ∀ s', Inv X pins (σ.set i (some v)) H s' → (∃ a, Heap.SameBut a s.heap s'.heap ∧ (a = X.env.locals ∨ X.env.cells.lookup x = some a)) → Q () s') (hf : StOk X i x := by first | exact ⟨.inl rfl, lk_nil⟩ | exact ⟨.inr rfl, lk_nil⟩ | assumption | exact ⟨.inl rfl, by assumption⟩ | exact ⟨.inr rfl, by assumption⟩) : wpAny M A (storeName X.env x u) Q E s := by
  obtain ⟨m, hn, hl⟩ := id I.loc
  have hcls : (X.env.scope.kind == .class || (X.env.scope.kind == .module && X.env.locals != X.env.globals)) = false := by rw [I.ok.kind]; rfl
  have hiσ : i < σ.length := by rw [I.len]; exact (List.getElem?_eq_some_iff.mp hi).1
  have cne := I.cne
  have tracked : ∀ {a : Addr} {h' : Heap}, (∃ o, s.heap.get? a = some o ∧ H a = none) → Heap.SameBut a s.heap h' → HOk X.prog X.w H h' := fun {a h'} ha hs b ob e => by
    obtain ⟨_, _, hfree⟩ := ha
    refine (I.hok b ob e).stay (fun c w' hc q => (hs.2 c ?_).trans q) (fun _ q => q) fun _ _ q => q
    rintro rfl
    rcases hc with rfl | hc
    · rw [hfree] at e; cases e
    · rw [hfree] at hc; cases hc
  rcases hx with hk | hk
  · refine wpAny_storeName_local hk hn (fun h' hn' hs => ?_) hcls
    obtain ⟨oL, _, _, hoL, _⟩ := id hn
    refine h _ ⟨I.ok, I.os, I.bare, ⟨fun b o e n hb hx => ?_, fun b o e n hb hx => ?_, I.base.free, fun b o e hx => ?_, I.base.tups, I.base.frzs, I.base.tbls⟩, ⟨_, hn', fun j y v' e1 e2 e3 => ?_⟩, fun y c e => ?_, I.free, I.freeC, fun p hp => ?_, tracked ⟨oL, hoL, I.free⟩ hs, by simpa using I.len⟩ ⟨_, hs, .inl rfl⟩
    · exact (hs.2 b (Nat.ne_of_lt (Nat.lt_of_lt_of_le (Heap.lt_size e) I.ok.above))).trans (I.base.keep b o e n hb hx)
    · obtain ⟨sl, e1⟩ := I.base.slot b o e n hb hx
      exact ⟨sl, (hs.2 b (Nat.ne_of_lt (Nat.lt_of_lt_of_le (Heap.lt_size e) I.ok.above))).trans e1⟩
    · obtain ⟨o', e1⟩ := I.base.there b o e hx
      exact ⟨o', (hs.2 b (Nat.ne_of_lt (Nat.lt_of_lt_of_le (Heap.lt_size e) I.ok.above))).trans e1⟩
    · by_cases hj : j = i
      · subst hj
        rw [hi] at e1; cases e1
        rcases e2 with e2 | e2
        case' inr => exact absurd e2 (hf.2 _)
        rw [List.getElem?_set_self hiσ] at e2
        cases e2
        exact ⟨u, r, .inl ⟨hk, by simp⟩⟩
      · have e2 : σ[j]? = some (some v') ∨ X.lk[j]? = some (some v') := e2.imp_left fun z => by rw [List.getElem?_set_ne (Ne.symm hj)] at z; exact z
        obtain ⟨u', r', q⟩ := hl j y v' e1 e2 e3
        refine ⟨u', r', ?_⟩
        rcases q with ⟨k, e⟩ | ⟨k, c, e, z⟩
        · refine .inl ⟨k, ?_⟩
          have : y ≠ x := fun e => hj (nodup_ix hN e1 (e ▸ hi))
          simp [this, e]
        · exact .inr ⟨k, c, e, z.sameBut hs (cne y c e)⟩
    · obtain ⟨w', z⟩ := I.cell y c e
      exact ⟨w', z.sameBut hs (cne y c e)⟩
    · obtain ⟨e, n, ne, nf, d⟩ := I.pin p hp
      exact ⟨(hs.2 p.1 ne).trans e, n, ne, nf, d⟩
  · have hfn : X.fn x = true := by
      rcases hf.1 with z | z
      · exact z
      · rw [z] at hk; cases hk
    obtain ⟨c, hc⟩ := I.ok.has x (.inl hk)
    obtain ⟨w', z⟩ := I.cell x c hc
    refine wpAny_storeName_cell I.ok.kind hk hc z (fun h' hc' hs => ?_)
    obtain ⟨oc, hoc, hocd⟩ := id z
    refine h { s with heap := h' } ⟨I.ok, I.os, I.bare, ⟨fun b o e n hb hx => ?_, fun b o e n hb hx => ?_, I.base.free, fun b o e hx => ?_, I.base.tups, I.base.frzs, I.base.tbls⟩, ⟨m, hn.sameBut hs (Ne.symm (cne x c hc)), fun j y v' e1 e2 e3 => ?_⟩, fun y c' e => ?_, I.free, I.freeC, fun p hp => ?_, tracked ⟨oc, hoc, I.freeC x c hc⟩ hs, by simpa using I.len⟩ ⟨c, hs, .inr hc⟩
    · exact (hs.2 b (Nat.ne_of_lt (Nat.lt_of_lt_of_le (Heap.lt_size e) (I.ok.cab x c hfn hc)))).trans (I.base.keep b o e n hb hx)
    · obtain ⟨sl, e1⟩ := I.base.slot b o e n hb hx
      exact ⟨sl, (hs.2 b (Nat.ne_of_lt (Nat.lt_of_lt_of_le (Heap.lt_size e) (I.ok.cab x c hfn hc)))).trans e1⟩
    · obtain ⟨o', e1⟩ := I.base.there b o e hx
      exact ⟨o', (hs.2 b (Nat.ne_of_lt (Nat.lt_of_lt_of_le (Heap.lt_size e) (I.ok.cab x c hfn hc)))).trans e1⟩
    · by_cases hj : j = i
      · subst hj
        rw [hi] at e1; cases e1
        rcases e2 with e2 | e2
        case' inr => exact absurd e2 (hf.2 _)
        rw [List.getElem?_set_self hiσ] at e2
        cases e2
        exact ⟨u, r, .inr ⟨.inl hk, c, hc, hc'⟩⟩
      · have e2 : σ[j]? = some (some v') ∨ X.lk[j]? = some (some v') := e2.imp_left fun z => by rw [List.getElem?_set_ne (Ne.symm hj)] at z; exact z
        obtain ⟨u', r', q⟩ := hl j y v' e1 e2 e3
        refine ⟨u', r', ?_⟩
        rcases q with q | ⟨k, c', e, z'⟩
        · exact .inl q
        · refine .inr ⟨k, c', e, z'.sameBut hs ?_⟩
          rintro rfl
          exact hj (nodup_ix hN e1 (I.ok.inj _ _ _ e hc ▸ hi))
    · by_cases hcc : c' = c
      · subst hcc; exact ⟨_, hc'⟩
      · obtain ⟨w2, z2⟩ := I.cell y c' e
        exact ⟨w2, z2.sameBut hs hcc⟩
    · obtain ⟨e, n, ne, nf, d⟩ := I.pin p hp
      refine ⟨(hs.2 p.1 ?_).trans e, n, ne, nf, d⟩
      intro q
      rw [q, hoc] at e
      have q' : oc = p.2 := Option.some.inj e
      exact d w' (by rw [← q']; exact hocd)
theorem store_ok (I : Inv X pins σ H s) (hN : X.N.Nodup) (hi : X.N[i]? = some x) (hx : Loc X.env.scope x) (r : RelV v u)
    (h : ∀ s', Inv X pins (σ.set i (some v)) H s' → Q () s') (hf : StOk X i x := by first | exact ⟨.inl rfl, lk_nil⟩ | exact ⟨.inr rfl, lk_nil⟩ | assumption | exact ⟨.inl rfl, by assumption⟩ | exact ⟨.inr rfl, by assumption⟩) : wpAny M A (storeName X.env x u) Q E s :=
  store_ok2 I hN hi hx r (fun s' I' _ => h s' I') hf
/-- behind a call or a block, the state as it is -/
theorem Inv.call' (I : Inv X pins σ H s) (ho : s'.os = s.os) (u : Un (frs X.stack) ch H H' s.heap s'.heap) (hok : HOk X.prog X.w H' s'.heap) (hg : AllBare s'.gens)
    (hch : ∀ b ∈ ch, (b ∈ X.ex ∨ X.s₀.heap.objs.size ≤ b) ∧ b ≠ X.env.locals ∧ (∀ x c, X.env.cells.lookup x = some c → c ≠ b) ∧ ∀ p ∈ X.pn ++ pins, p.1 ≠ b) : Inv X pins σ H' s' := by
  obtain ⟨h', g', d', t', o'⟩ := s'
  have e : o' = s.os := ho
  subst e
  exact I.call (g' := g') (t' := t') (d' := d') u hok hg hch
end
/-! ### the judgements -/
/-- an exception: its class, its own dict's address (where it has one), the abstract heap behind it -/
abbrev XK := Value → Option Addr → Hp → Prop
abbrev St := List (Option V)
abbrev VK := V → Hp → Prop
/-- an expression's reading; a test's; an argument list's -/
abbrev TE := St → Hp → VK → Prop
abbrev TT := St → Hp → (Bool → Hp → Prop) → Prop
abbrev TA := St → Hp → (List V → Hp → Prop) → Prop
/-- what is wanted behind a statement -/
structure Ends where
  nx : St → Hp → Prop
  rt : VK
  bk : St → Hp → Prop := fun _ _ => False
  ct : St → Hp → Prop := fun _ _ => False
abbrev TS := Ends → St → Hp → Prop
def EP (X : Cx) (pins : List (Addr × Obj)) (σ : St) (Q : VK) (u : Value) (s' : Shared) : Prop := ∃ v H', Inv X pins σ H' s' ∧ RelV v u ∧ Q v H'
def TP (X : Cx) (pins : List (Addr × Obj)) (σ : St) (Q : Bool → Hp → Prop) (b : Bool) (s' : Shared) : Prop := ∃ H', Inv X pins σ H' s' ∧ Q b H'
def AP (X : Cx) (pins : List (Addr × Obj)) (σ : St) (Q : List V → Hp → Prop) (us : List Value) (s' : Shared) : Prop := ∃ vs H', Inv X pins σ H' s' ∧ Vals vs us ∧ Q vs H'
def SP (X : Cx) (pins : List (Addr × Obj)) (D : Ends) (f : Flow) (s' : Shared) : Prop :=
  match f with
  | .next => ∃ σ' H', Inv X pins σ' H' s' ∧ D.nx σ' H'
  | .brk => ∃ σ' H', Inv X pins σ' H' s' ∧ D.bk σ' H'
  | .cont => ∃ σ' H', Inv X pins σ' H' s' ∧ D.ct σ' H'
  | .ret u => ∃ v σ' H', Inv X pins σ' H' s' ∧ RelV v u ∧ D.rt v H'
def PE (X : Cx) (e : Expr) (t : TE) : Prop :=
  ∀ (pins : List (Addr × Obj)) (s : Shared) (σ : St) (H : Hp) (Q : VK), Inv X pins σ H s → t σ H Q → wpAny (model X.prog X.w) X.A (eval e X.env) (EP X pins σ Q) X.xe s
def PT (X : Cx) (e : Expr) (t : TT) : Prop :=
  ∀ (pins : List (Addr × Obj)) (s : Shared) (σ : St) (H : Hp) (Q : Bool → Hp → Prop), Inv X pins σ H s → t σ H Q → wpAny (model X.prog X.w) X.A (isTrue e X.env (eval e X.env)) (TP X pins σ Q) X.xe s
/-- a test whatever its 'whole' is (and, or) -/
def PW (X : Cx) (e : Expr) (t : TT) : Prop :=
  ∀ (whole : Sem Value) (pins : List (Addr × Obj)) (s : Shared) (σ : St) (H : Hp) (Q : Bool → Hp → Prop), Inv X pins σ H s → t σ H Q → wpAny (model X.prog X.w) X.A (isTrue e X.env whole) (TP X pins σ Q) X.xe s
theorem PW.pt (h : PW X e t) : PT X e t := h _
/-- an argument list (no star), from the left -/
def PA (X : Cx) (es : List Expr) (t : TA) : Prop :=
  ∀ (pos : Pos) (pins : List (Addr × Obj)) (s : Shared) (σ : St) (H : Hp) (Q : List V → Hp → Prop), Inv X pins σ H s → t σ H Q → wpAny (model X.prog X.w) X.A (spliced (backTo pos (starEach es X.env))) (AP X pins σ Q) X.xe s
def PS (X : Cx) (st : Stmt) (t : TS) : Prop :=
  ∀ (pins : List (Addr × Obj)) (s : Shared) (σ : St) (H : Hp) (D : Ends), Inv X pins σ H s → t D σ H → wpAny (model X.prog X.w) X.A (exec st X.env) (SP X pins D) X.xe s
def PSs (X : Cx) (st : List Stmt) (t : TS) : Prop :=
  ∀ (pins : List (Addr × Obj)) (s : Shared) (σ : St) (H : Hp) (D : Ends), Inv X pins σ H s → t D σ H → wpAny (model X.prog X.w) X.A (execs st X.env) (SP X pins D) X.xe s
/-- weaken the end -/
theorem thn (h : wpAny M A t Q E s) (hQ : ∀ a s, Q a s → Q' a s) : wpAny M A t Q' E s := wpAny_mono h hQ fun _ _ x => x
end L2
namespace L2
open PySem PySem.Spec PyProof.Rows
section
variable {X : Cx}
/-! ### names and constants -/
inductive tVar (i : Nat) (σ : L2.St) (H : Hp) (Q : VK) : Prop where
  | mk(v)(_ : σ[i]? = some (some v))(_ : Q v H)
def tC (v : V) : TE := fun _ H Q => Q v H
theorem pe_var (hN : X.N[i]? = some x) (hv : Vis X.env.scope x) (hd : (x == ("__debug__" : Str)) = false := by decide) (hcd : (x == ("__classdict__" : Str)) = false := by decide) : PE X (.Name x pos) (tVar i) := by
  intro pins s σ H Q I h
  obtain ⟨v, e, h⟩ := h
  obtain ⟨m, hn, hl⟩ := I.loc
  obtain ⟨u, r, l⟩ := hl i x v hN (.inl e) hv
  have fin : EP X pins σ Q u s := ⟨v, H, I, r, h⟩
  rcases l with ⟨hk, hm⟩ | ⟨hk, c, hc, hcell⟩
  · exact wpAny_Name (wpAny_loadName_local I.ok.kind hk hn hm fin) hd
  · rcases hk with hk | hk
    · exact wpAny_Name (wpAny_loadName_cell I.ok.kind hk hc hcell fin) hd
    · exact wpAny_Name (wpAny_loadName_free I.ok.kind hk hc hcell fin hcd) hd
theorem pe_int {i j pos} : PE X (.Constant (.int i) j pos) (tC (.int i)) := fun _ _ _ H _ I h => wpAny_Constant_int ⟨.int i, H, I.tok _, ⟨_, rfl⟩, h⟩
theorem pe_bl {b j pos} : PE X (.Constant (.bool b) j pos) (tC (.bl b)) := fun _ _ _ H _ I h => Constant_bool ⟨.bl b, H, I, rfl, h⟩
theorem pe_non {j pos} : PE X (.Constant .none j pos) (tC .non) := fun _ _ _ H _ I h => Constant_none ⟨.non, H, I, rfl, h⟩
theorem pe_str {x j pos} : PE X (.Constant (.str x) j pos) (tC (.str x)) := fun _ _ _ H _ I h => Calls.Constant_str ⟨.str x, H, I.tok _, ⟨_, rfl⟩, h⟩
/-- a global name of the def -/
def Gl (X : Cx) (x : Str) : Prop := X.env.kindOf x = some .globalImplicit
theorem ld_glob (I : Inv X pins σ H s) (hg : Gl X x) (hm : X.mg x = some u) (h : Q u s)
    (hd : (x == ("__debug__" : Str)) = false := by decide) : wpAny (model X.prog X.w) X.A (eval (.Name x pos) X.env) Q E s :=
  Calls.Name_function_global I.ok.kind hg (Calls.loadGlobal_global (by rw [I.ok.glob]; exact I.mod.glob.keeps I.bk) hm h) hd
theorem ld_blt (I : Inv X pins σ H s) (hg : Gl X x) (hm : X.mg x = none) (hv : bootBuiltins x = some u) (h : Q u s)
    (hn : x ≠ "__name__" := by decide) (hd : (x == ("__debug__" : Str)) = false := by decide) : wpAny (model X.prog X.w) X.A (eval (.Name x pos) X.env) Q E s := by
  obtain ⟨mb, h1, h2⟩ := I.mod.blt
  exact Calls.Name_function_global I.ok.kind hg (Calls.loadGlobal_builtin (by rw [I.ok.glob]; exact I.mod.glob.keeps I.bk) hm (by rw [I.ok.blt]; exact h1.keeps I.bk) ((h2 x hn).trans hv) h) hd
/-- a module's constant, a class, a function, as a value -/
theorem pe_glob (hg : Gl X x) (hm : X.mg x = some u) (r : RelV v u) (hd : (x == ("__debug__" : Str)) = false := by decide) : PE X (.Name x pos) (tC v) :=
  fun _ _ _ H _ I h => ld_glob I hg hm ⟨v, H, I, r, h⟩ hd
theorem pe_bltn (hg : Gl X x) (hm : X.mg x = none) (hv : bootBuiltins x = some u) (r : RelV v u) (hn : x ≠ "__name__" := by decide) (hd : (x == ("__debug__" : Str)) = false := by decide) : PE X (.Name x pos) (tC v) :=
  fun _ _ _ H _ I h => ld_blt I hg hm hv ⟨v, H, I, r, h⟩ hn hd
/-! ### arithmetic -/
variable {a b : Expr} {ta tb : TE} {pos : Pos}
/-! ### comparisons -/
def PC (X : Cx) (op : CmpOp) (a b : Expr) (t : TE) : Prop :=
  ∀ (pins : List (Addr × Obj)) (s : Shared) (σ : St) (H : Hp) (Q : VK), Inv X pins σ H s → t σ H Q →
    wpAny (model X.prog X.w) X.A (eval a X.env) (fun v s₁ => wpAny (model X.prog X.w) X.A (eval b X.env) (fun u s₂ => wpAny (model X.prog X.w) X.A (compareOp op v u) (EP X pins σ Q) X.xe s₂) X.xe s₁) X.xe s
/-- a comparison as a value, as a test -/
inductive tBI (Q : Bool → Hp → Prop) (x : V) (H1 : Hp) : Prop where
  | mk(c)(_ : x = .bl c)(_ : Q c H1)
def tB (t : TE) : TT := fun σ H Q => t σ H fun x H1 => tBI Q x H1
theorem pe_cmp (h : PC X op a b t) (h1 : behindInMarks op b = false := by first | exact nobehind _ (by decide) (by decide) | rfl) : PE X (.Compare a [op] [b] pos) t := fun pins s σ H Q I hw => wpAny_Compare1 (h pins s σ H Q I hw) h1
theorem pt_cmp (h : PC X op a b t) (h1 : behindInMarks op b = false := by first | exact nobehind _ (by decide) (by decide) | rfl) : PT X (.Compare a [op] [b] pos) (tB t) := by
  intro pins s σ H Q I hw
  refine wpAny_isTrue_Compare1 (thn (h pins s σ H _ I hw) fun v s1 h1 => thn h1 fun u s2 h2 => thn h2 fun c s3 ⟨x, H1, I1, r1, q1⟩ => ?_) h1
  obtain ⟨d, rfl, q⟩ := q1
  cases r1
  exact wpAny_truthy_bool ⟨H1, I1, q⟩
/-- an expression whose value is a bool, as a test -/
theorem pt_val (h : PE X e t) (he : ∀ whole, isTrue e X.env whole = (do let v ← whole; standAt e.pos; holding [v] (truthy v)) := by intro _; rfl) : PT X e (tB t) := by
  intro pins s σ H Q I hw
  refine isTrue_plain (thn (h pins s σ H _ I hw) fun v s1 ⟨x, H1, I1, r1, q1⟩ => ?_) (he _)
  obtain ⟨d, rfl, q⟩ := q1
  cases r1
  exact wpAny_truthy_bool ⟨H1, I1, q⟩
/-! ### and, or, not -/
variable {tA tB' : TT} {rest : List Expr}
def tOr (t u : TT) : TT := fun σ H Q => t σ H fun c H1 => if c = true then Q true H1 else u σ H1 Q
def tNot (t : TT) : TT := fun σ H Q => t σ H fun c H1 => Q (!c) H1
theorem pw_or1 (ha : PT X a tA) : PW X (.BoolOp .Or [a] pos) tA := by
  intro wh pins s σ H Q I h
  refine isTrue_or (thn (ha pins s σ H Q I h) fun c s1 e => ?_)
  cases c with
  | false => exact isTrue_or_nil e
  | true => exact e
theorem pw_or (ha : PT X a tA) (hb : PW X (.BoolOp .Or (b :: rest) pos) tB') : PW X (.BoolOp .Or (a :: b :: rest) pos) (tOr tA tB') := by
  intro wh pins s σ H Q I h
  refine isTrue_or (thn (ha pins s σ H _ I h) fun c s1 ⟨H1, I1, q1⟩ => ?_)
  cases c with
  | true => exact ⟨H1, I1, q1⟩
  | false => exact hb wh pins s1 σ H1 Q I1 q1
theorem pt_not (ha : PT X a tA) : PT X (.UnaryOp .Not a pos) (tNot tA) := by
  intro pins s σ H Q I h
  exact isTrue_not (ha pins s σ H (fun c H1 => Q (!c) H1) I h)
/-- .. as values (bools) -/
inductive tAndVI (tb : TE) (σ : L2.St) (Q : VK) (x : V) (H1 : Hp) : Prop where
  | mk(c)(_ : x = .bl c)(_ : if c = true then tb σ H1 Q else Q (.bl false) H1)
def tAndV (ta tb : TE) : TE := fun σ H Q => ta σ H fun x H1 => tAndVI tb σ Q x H1
inductive tNotVI (Q : VK) (x : V) (H1 : Hp) : Prop where
  | mk(c)(_ : x = .bl c)(_ : Q (.bl (!c)) H1)
def tNotV (ta : TE) : TE := fun σ H Q => ta σ H fun x H1 => tNotVI Q x H1
theorem pe_one {op} (h : PE X a t) : PE X (.BoolOp op [a] pos) t := fun pins s σ H Q I hw => BoolOp_one (h pins s σ H Q I hw)
theorem pe_and (ha : PE X a ta) (hb : PE X (.BoolOp .And (b :: rest) pos) tb) : PE X (.BoolOp .And (a :: b :: rest) pos) (tAndV ta tb) := by
  intro pins s σ H Q I h
  refine BoolOp_and (thn (ha pins s σ H _ I h) fun v s1 ⟨x, H1, I1, r1, q1⟩ => ?_)
  obtain ⟨c, rfl, q1⟩ := q1
  cases r1
  refine wpAny_truthy_bool ?_
  cases c with
  | true => exact hb pins s1 σ H1 Q I1 q1
  | false => exact ⟨.bl false, H1, I1, rfl, q1⟩
theorem pe_not (ha : PE X a ta) : PE X (.UnaryOp .Not a pos) (tNotV ta) := by
  intro pins s σ H Q I h
  refine UnaryOp_ (thn (ha pins s σ H _ I h) fun v s1 ⟨x, H1, I1, r1, q1⟩ => ?_)
  obtain ⟨c, rfl, q1⟩ := q1
  cases r1
  exact not_of (wpAny_truthy_bool ⟨.bl (!c), H1, I1, rfl, q1⟩)
/-- a if t else b -/
def tIf (t : TT) (ta tb : TE) : TE := fun σ H Q => t σ H fun c H1 => if c = true then ta σ H1 Q else tb σ H1 Q
theorem pe_ifExp (hc : PT X c tA) (ha : PE X a ta) (hb : PE X b tb) : PE X (.IfExp c a b pos) (tIf tA ta tb) := by
  intro pins s σ H Q I h
  refine wpAny_IfExp (thn (hc pins s σ H _ I h) fun d s1 ⟨H1, I1, q1⟩ => ?_)
  cases d with
  | true => exact ha pins s1 σ H1 Q I1 q1
  | false => exact hb pins s1 σ H1 Q I1 q1
end
end L2
namespace L2
open PySem PySem.Spec PyProof.Rows
/-! ### a list, a tuple that is read: tracked, frozen, or an object of the module -/
def SqL (K : PySem.W.Frag) (H : Hp) (a : Addr) (xs : List V) : Prop :=
  Rd H a (.lst xs) ∨
    ∃ (o : Obj) (its : Array Value) (n : Nat), K.lookup a = some o ∧ o.cls = .type "list" ∧ o.dict = none ∧ o.data = .seq its n ∧ its.size ≤ sizeLine ∧ Vals xs its.toList
def SqT (K : PySem.W.Frag) (H : Hp) (a : Addr) (xs : List V) : Prop :=
  Rd H a (.tup xs) ∨
    ∃ (o : Obj) (its : Array Value) (n : Nat), K.lookup a = some o ∧ o.cls = .type "tuple" ∧ o.data = .seq its n ∧ its.size ≤ sizeLine ∧ Vals xs its.toList
def absV : Value → Option V
  | .none => some .non
  | .bool b => some (.bl b)
  | .int i _ => some (.int i)
  | .str x _ => some (.str x)
  | .bytes b _ => some (.byt b)
  | .float b _ => some (.flt b)
  | .ref a => some (.ref a)
  | .type n => some (.ty n)
  | _ => none
theorem RelV.abs (r : RelV x u) : absV u = some x := by
  cases x with
  | non => cases r; rfl
  | bl _ => cases r; rfl
  | int _ => obtain ⟨t, rfl⟩ := r; rfl
  | str _ => obtain ⟨t, rfl⟩ := r; rfl
  | byt _ => obtain ⟨t, rfl⟩ := r; rfl
  | flt _ => obtain ⟨t, rfl⟩ := r; rfl
  | ref _ => cases r; rfl
  | ty _ => cases r; rfl
theorem RelV.inj (r : RelV x u) (q : RelV y u) : x = y := Option.some.inj (r.abs.symm.trans q.abs)
theorem Vals.inj : ∀ {xs ys : List V} {us : List Value}, Vals xs us → Vals ys us → xs = ys
  | _, _, _, .nil, .nil => rfl
  | _, _, _, .cons r t, .cons r' t' => by rw [r.inj r', Vals.inj t t']
section
variable {X : Cx} {pins : List (Addr × Obj)} {σ : St} {H : Hp} {s : Shared} {a : Addr} {xs ys : List V}
theorem SqL.of {K : PySem.W.Frag} (h : H a = some (.lst xs)) : SqL K H a xs := .inl (.inl h)
theorem SqT.of {K : PySem.W.Frag} (h : H a = some (.tup xs)) : SqT K H a xs := .inl (.inl h)
theorem Inv.list (I : Inv X pins σ H s) (h : SqL X.K H a xs) : ∃ its : List Value, Vals xs its ∧ PlainL s.heap a its.toArray ∧ xs.length ≤ sizeLine := by
  rcases h with h | ⟨o, its, n, hk, hc, hd, hs, hz, r⟩
  · obtain ⟨z, its, n, r, e⟩ := h.ok I.hok
    exact ⟨its, r, ⟨_, n, e, rfl, rfl, rfl⟩, z⟩
  · refine ⟨its.toList, r, ⟨o, n, I.kIn a o hk, hc, hd, by simpa using hs⟩, ?_⟩
    have e := r.length
    simp only [Array.length_toList] at e
    omega
theorem Inv.tuple (I : Inv X pins σ H s) (h : SqT X.K H a xs) : ∃ its : List Value, Vals xs its ∧ IsTup s.heap a its.toArray ∧ xs.length ≤ sizeLine := by
  rcases h with h | ⟨o, its, n, hk, hc, hs, hz, r⟩
  · obtain ⟨z, its, r, p⟩ := h.ok I.hok
    exact ⟨its, r, p, z⟩
  · refine ⟨its.toList, r, ⟨o, I.kIn a o hk, hc, n, by simpa using hs⟩, ?_⟩
    have e := r.length
    simp only [Array.length_toList] at e
    omega
theorem Inv.list_inj (I : Inv X pins σ H s) (h : SqL X.K H a xs) (h' : SqL X.K H a ys) : xs = ys := by
  obtain ⟨its, r, ⟨o, n, e, _, _, d⟩, _⟩ := I.list h
  obtain ⟨its', r', ⟨o', n', e', _, _, d'⟩, _⟩ := I.list h'
  rw [e] at e'; cases e'
  rw [d] at d'
  injection d' with d1 _
  have : its = its' := by simpa using congrArg Array.toList d1
  subst this
  exact r.inj r'
end
/-! ### another wish about exceptions -/
section
variable {X : Cx} {pins : List (Addr × Obj)} {σ : St} {H : Hp} {s : Shared} {E : Value → Shared → Prop}
end
/-! ### blocks and small statements -/
section
variable {X : Cx} {st : Stmt} {rest : List Stmt} {t u : TS} {e : Expr} {te : TE} {pos : Pos}
def tNext : TS := fun D σ H => D.nx σ H
def tSeq (t u : TS) : TS := fun D σ H => t { D with nx := u D } σ H
theorem pss_nil : PSs X [] tNext := fun _ _ σ H _ I h => wpAny_execs_nil ⟨σ, H, I, h⟩
theorem pss_cons (h1 : PS X st t) (h2 : PSs X rest u) : PSs X (st :: rest) (tSeq t u) := by
  intro pins s σ H D I h
  refine wpAny_execs_cons (thn (h1 pins s σ H { D with nx := u D } I h) fun f s1 q => ?_)
  cases f with
  | next =>
    obtain ⟨σ', H', I', q⟩ := q
    exact h2 pins s1 σ' H' D I' q
  | ret v => exact q
  | brk => exact q
  | cont => exact q
theorem pss_one (h1 : PS X st t) : PSs X [st] t := by
  intro pins s σ H D I h
  refine wpAny_execs_cons (thn (h1 pins s σ H D I h) fun f s1 q => ?_)
  cases f with
  | next => exact wpAny_execs_nil q
  | ret v => exact q
  | brk => exact q
  | cont => exact q
/-- in a def's body nothing is shown -/
theorem Inv.quiet (I : Inv X pins σ H s) : interactive X.env = false := by simp [interactive, I.ok.kind]
/-- an expression whose value is dropped -/
def tDrop (te : TE) : TS := fun D σ H => te σ H fun _ H1 => D.nx σ H1
theorem ps_expr (he : PE X e te) (hs : swapsWith e none pos.line X.env = pure false := by rfl) : PS X (.Expr e pos) (tDrop te) := by
  intro pins s σ H D I h
  exact wpAny_Expr_any (thn (he pins s σ H _ I h) fun v s1 ⟨x, H1, I1, r1, q1⟩ => ⟨σ, H1, I1, q1⟩) I.quiet hs
def tRet (te : TE) : TS := fun D σ H => te σ H D.rt
theorem ps_ret (he : PE X e te) : PS X (.Return (some e) pos) (tRet te) := by
  intro pins s σ H D I h
  exact wpAny_Return_some (thn (he pins s σ H _ I h) fun v s1 ⟨x, H1, I1, r1, q1⟩ => ⟨x, σ, H1, I1, r1, q1⟩)
def tIfS (c : TT) (t u : TS) : TS := fun D σ H => c σ H fun b H1 => if b = true then t D σ H1 else u D σ H1
theorem ps_if (hc : PT X c tc) (ha : PSs X a t) (hb : PSs X b u) : PS X (.If c a b pos) (tIfS tc t u) := by
  intro pins s σ H D I h
  refine wpAny_If (thn (hc pins s σ H _ I h) fun d s1 ⟨H1, I1, q1⟩ => ?_)
  cases d with
  | true => exact ha pins s1 σ H1 D I1 q1
  | false => exact hb pins s1 σ H1 D I1 q1
end
/-! ### targets -/
abbrev TG := V → St → Hp → (St → Hp → Prop) → Prop
abbrev TGs := List V → St → Hp → (St → Hp → Prop) → Prop
def PG (X : Cx) (target : Expr) (t : TG) : Prop :=
  ∀ (pins : List (Addr × Obj)) (s : Shared) (σ : St) (H : Hp) (v : V) (u : Value) (Q : St → Hp → Prop), Inv X pins σ H s → RelV v u → t v σ H Q →
    wpAny (model X.prog X.w) X.A (assign target X.env u) (fun _ s' => ∃ σ' H', Inv X pins σ' H' s' ∧ Q σ' H') X.xe s
/-- several targets, one after another -/
def PGs (X : Cx) (ts : List Expr) (t : TGs) : Prop :=
  ∀ (pins : List (Addr × Obj)) (s : Shared) (σ : St) (H : Hp) (vs : List V) (us : List Value) (Q : St → Hp → Prop), Inv X pins σ H s → Vals vs us → t vs σ H Q →
    wpAny (model X.prog X.w) X.A (assignInOrder ((assignEach ts X.env).map (·.2)) us) (fun _ s' => ∃ σ' H', Inv X pins σ' H' s' ∧ Q σ' H') X.xe s
section
variable {X : Cx} {pos : Pos}
def gName (i : Nat) : TG := fun v σ H Q => Q (σ.set i (some v)) H
theorem pg_name (hN : X.N.Nodup) (hi : X.N[i]? = some x) (hx : Loc X.env.scope x) (hf : StOk X i x := by first | exact ⟨.inl rfl, lk_nil⟩ | exact ⟨.inr rfl, lk_nil⟩ | assumption | exact ⟨.inl rfl, by assumption⟩ | exact ⟨.inr rfl, by assumption⟩) : PG X (.Name x pos) (gName i) := by
  intro pins s σ H v u Q I r h
  exact wpAny_assign_Name (store_ok I hN hi hx r (fun s' I' => ⟨_, H, I', h⟩) hf)
def gNil : TGs := fun vs σ H Q => vs = [] ∧ Q σ H
def gCons (t : TG) (u : TGs) : TGs := fun vs σ H Q => ∃ v r, vs = v :: r ∧ t v σ H fun σ' H' => u r σ' H' Q
theorem pgs_nil : PGs X [] gNil := by
  intro pins s σ H vs us Q I r h
  obtain ⟨e, h⟩ := h
  subst e
  cases r
  exact assignInOrder_nil ⟨σ, H, I, h⟩
theorem pgs_cons (h1 : PG X e t) (h2 : PGs X es u)
    (hs : (assignEach (e :: es) X.env).map (·.2) = assign e X.env :: (assignEach es X.env).map (·.2) := by rfl) : PGs X (e :: es) (gCons t u) := by
  intro pins s σ H vs us Q I r h
  obtain ⟨v, vr, e1, h⟩ := h
  subst e1
  cases r with
  | cons r rr =>
    rw [hs]
    refine assignInOrder_cons (thn (h1 pins s σ H _ _ _ I r h) fun _ s1 ⟨σ1, H1, I1, q1⟩ => ?_)
    exact h2 pins s1 σ1 H1 _ _ Q I1 rr q1
/-- (a, b, ..) = a tuple of that length -/
def gTup (K : PySem.W.Frag) (n : Nat) (t : TGs) : TG := fun v σ H Q => ∃ a xs, v = .ref a ∧ SqT K H a xs ∧ xs.length = n ∧ t xs σ H Q
theorem pg_tup (hc : X.calm = true) (h : PGs X es t)
    (hn : (assignEach es X.env).length = n := by rfl) (hst : (assignEach es X.env).findIdx? (·.1) = none := by rfl) : PG X (.Tuple es k pos) (gTup X.K n t) := by
  intro pins s σ H v u Q I r hw
  obtain ⟨a, xs, e1, hq, hl, hw⟩ := hw
  subst e1
  cases r
  obtain ⟨its, rv, ht, hz⟩ := I.tuple hq
  refine assign_Tuple_tuple (I.ok.hd hc) ht (by simp [hn, ← hl, rv.length]) hst fun h' hx => ?_
  have I1 : Inv X pins σ H { s with heap := h' } := I.kept (t' := s.toks) fun b o e => hx b o (Nat.ne_of_lt (Heap.lt_size e)) e
  exact h pins _ σ H xs _ Q I1 (by simpa using rv) hw
/-- target = value -/
def tAsg (te : TE) (g : TG) : TS := fun D σ H => te σ H fun x H1 => g x σ H1 D.nx
theorem ps_asg (he : PE X e te) (hg : PG X tg g) (hs : swapsWithSole [tg] e pos.line X.env = pure false := by rfl) (hw : swappedStores [tg] e X.env = pure none := by rfl)
    (h1 : (assignEach [tg] X.env).map (·.2) = [assign tg X.env] := by rfl) : PS X (.Assign [tg] e pos) (tAsg te g) := by
  intro pins s σ H D I h
  refine wpAny_Assign_stores (thn (he pins s σ H _ I h) fun v s1 ⟨x, H1, I1, r1, q1⟩ => ?_) hs hw
  rw [h1]
  exact thn (hg pins s1 σ H1 x v _ I1 r1 q1) fun _ s2 q => q
/-- name = value -/
theorem ps_set (hN : X.N.Nodup) (hi : X.N[i]? = some x) (hx : Loc X.env.scope x) (he : PE X e te) (hs : swapsWith e (some (.Name x pos')) pos.line X.env = pure false := by rfl) (hf : StOk X i x := by first | exact ⟨.inl rfl, lk_nil⟩ | exact ⟨.inr rfl, lk_nil⟩ | assumption | exact ⟨.inl rfl, by assumption⟩ | exact ⟨.inr rfl, by assumption⟩) :
    PS X (.Assign [.Name x pos'] e pos) (tAsg te (gName i)) := by
  intro pins s σ H D I h
  refine wpAny_Assign_Name (thn (he pins s σ H _ I h) fun v s1 ⟨y, H1, I1, r1, q1⟩ => ?_) hs
  exact store_ok I1 hN hi hx r1 (fun s2 I2 => ⟨_, H1, I2, q1⟩) hf
end
/-! ### while -/
section
variable {X : Cx} {pos : Pos}
end
/-! ### what a loop or a comprehension walks -/
/-- at turn i: it yields x (the heap may grow), or it stops -/
structure It where
  go : Nat → Hp → Prop
  yld : Nat → Hp → V → Hp → Prop
  stop : Nat → Hp → Prop
/-- the iterator's own objects may turn: they are not the frame's, not pinned, younger than the entry (or a comprehension's own) -/
def FpOk (X : Cx) (pins : List (Addr × Obj)) (H : Hp) (b : Addr) : Prop :=
  H b = none ∧ b ≠ X.env.locals ∧ b ∉ X.fs ∧ (b ∈ X.ex ∨ X.s₀.heap.objs.size ≤ b) ∧ (∀ x c, X.env.cells.lookup x = some c → c ≠ b) ∧ ∀ p ∈ X.pn ++ pins, p.1 ≠ b
theorem Inv.fpOk (I : Inv X pins σ H s) (hb : s.heap.objs.size ≤ b) (hn : H' b = none) : FpOk X pins H' b := by
  refine ⟨hn, Nat.ne_of_gt (Nat.lt_of_lt_of_le I.lt hb), I.nofs hb, .inr (Nat.le_trans I.sz hb), fun x c e z => ?_, fun p hp z => ?_⟩
  · obtain ⟨v, q⟩ := I.cell x c e
    exact absurd (Nat.lt_of_lt_of_le q.lt (by rw [z]; exact hb)) (Nat.lt_irrefl _)
  · exact absurd (Nat.lt_of_lt_of_le (Heap.lt_size (I.pin p hp).1) (by rw [z]; exact hb)) (Nat.lt_irrefl _)
structure Turn (P : Program) (w : World) (K : PySem.W.Frag) (tg : Expr) (J : It) (fp : List Addr) (it : Addr) (tn : Nat → Heap → Prop) : Prop where
  mem : it ∈ fp
  obj : ∀ i h, tn i h → ∀ b ∈ fp, ∃ o, h.get? b = some o ∧ ∀ v, o.data ≠ .cell v
  keep : ∀ i h h', tn i h → (∀ b ∈ fp, ∀ o, h.get? b = some o → h'.get? b = some o) → tn i h'
  item : ∀ (X : Cx), X.prog = P → X.w = w → X.K = K → X.calm = true → ∀ (i : Nat) (pins : List (Addr × Obj)) (s : Shared) (σ : St) (H : Hp) (E : Value → Shared → Prop), Inv X pins σ H s → (∀ b ∈ fp, FpOk X pins H b) → tn i s.heap → J.go i H →
    wpAny (model P w) X.A (pyNext (.ref it)) (fun r s1 => ∃ u, r = some u ∧
      wpAny (model P w) X.A (letOwnedTupleGo tg (.ref it) u) (fun _ s2 => ∃ x H', Inv X pins σ H' s2 ∧ RelV x u ∧ J.yld i H x H' ∧ tn (i + 1) s2.heap ∧ ∀ b ∈ fp, H' b = none) E s1) E s
  done : ∀ (X : Cx), X.prog = P → X.w = w → X.K = K → X.calm = true → ∀ (i : Nat) (pins : List (Addr × Obj)) (s : Shared) (σ : St) (H : Hp) (E : Value → Shared → Prop), Inv X pins σ H s → (∀ b ∈ fp, FpOk X pins H b) → tn i s.heap → J.stop i H →
    wpAny (model P w) X.A (pyNext (.ref it)) (fun r s1 => r = none ∧ Inv X pins σ H s1) E s
  self : ∀ (A : Around) (i : Nat) (s : Shared) (Q : Value → Shared → Prop) (E : Value → Shared → Prop), tn i s.heap → Q (.ref it) s → wpAny (model P w) A (pyIter (.ref it)) Q E s
abbrev TI := St → Hp → (It → Hp → Prop) → Prop
/-- an iterator has come -/
def PIE (X : Cx) (pins : List (Addr × Obj)) (σ : St) (tg : Expr) (R : It → Hp → Prop) (itv : Value) (s2 : Shared) : Prop :=
  ∃ (it : Addr) (fp : List Addr) (tn : Nat → Heap → Prop) (J : It) (H' : Hp), itv = .ref it ∧ Inv X pins σ H' s2 ∧ Turn X.prog X.w X.K tg J fp it tn ∧ tn 0 s2.heap ∧ (∀ b ∈ fp, FpOk X pins H' b) ∧ R J H'
def PI (X : Cx) (tg iter : Expr) (wi : TI) : Prop :=
  ∀ (pins : List (Addr × Obj)) (s : Shared) (σ : St) (H : Hp) (R : It → Hp → Prop), Inv X pins σ H s → wi σ H R →
    wpAny (model X.prog X.w) X.A (eval iter X.env) (fun v s1 => wpAny (model X.prog X.w) X.A (pyIter v) (PIE X pins σ tg R) X.xe s1) X.xe s
/-- the step ahead of the store is nothing for an iterator that keeps no tuple -/
theorem go_of (ho : s.heap.get? it = some o) (hc : o.cls = .type n) (hd : o.data = .fields vs)
    (hn : ["enumerate", "zip", "dict_itemiterator", "dict_reverseitemiterator", "odict_iterator", "itertools.zip_longest", "itertools.pairwise"].contains n = false) (hQ : Q () s) : wpAny M A (letOwnedTupleGo tg (.ref it) u) Q E s := by
  unfold letOwnedTupleGo
  cases tg <;> first
    | exact wpAny_pure hQ
    | (cases u <;> first
        | exact wpAny_pure hQ
        | (refine wpAny_bind (wpAny_load ho ?_)
           rw [hc, hd]
           show wpAny M A (if (["enumerate", "zip", "dict_itemiterator", "dict_reverseitemiterator", "odict_iterator", "itertools.zip_longest", "itertools.pairwise"].contains n && vs[0]? == some (rawInt _)) = true then _ else _) Q E s
           rw [if_neg (by intro h; rw [hn, Bool.false_and] at h; cases h)]
           exact wpAny_pure hQ))
/-- the list at a, as it stands at each turn (a loop may append to it) -/
def Itl (K : PySem.W.Frag) (a : Addr) : It :=
  ⟨fun i H => ∃ xs x, SqL K H a xs ∧ xs[i]? = some x, fun i H x H' => H' = H ∧ ∀ xs, SqL K H a xs → xs[i]? = some x, fun i H => ∃ xs, SqL K H a xs ∧ xs.length ≤ i⟩
/-- lo, lo + 1, .. (n of them) -/
def Itr (lo : Int) (n : Nat) : It := ⟨fun i _ => i < n, fun i H x H' => H' = H ∧ x = .int (lo + i), fun i _ => n ≤ i⟩
theorem turn_list {P : Program} {w : World} {K : PySem.W.Frag} {tg : Expr} (a it : Addr) : Turn P w K tg (Itl K a) [it] it (fun i h => h.IsListIter it a i) where
  mem := by simp
  obj := fun i h st b hb => by
    have e : b = it := by simpa using hb
    subst e
    obtain ⟨o, e, c, d⟩ := st
    exact ⟨o, e, fun v z => by rw [d] at z; cases z⟩
  keep := fun i h h' st k => st.at fun o e => k it (by simp) o e
  item := by
    intro X hP hw hK hc i pins s σ H E I hf st hg
    subst hP hw hK
    obtain ⟨xs, x, hq, hx⟩ := hg
    obtain ⟨its, rv, p, hz⟩ := I.list hq
    obtain ⟨u, hu, ru⟩ := rv.get hx
    obtain ⟨f0, f1, f2, f3, f4, f5⟩ := hf it (by simp)
    refine wpAny_pyNext_list_item st p.isList (x := u) (by simpa using hu) fun h' st' sb => ?_
    have I1 : Inv X pins σ H { s with heap := h' } := I.turned (t' := s.toks) (fun b o hb e => (sb.2 b hb).trans e) f0 f1 f3 f4 f5
    obtain ⟨o, e, c, d⟩ := id st'
    exact ⟨u, rfl, go_of (s := { s with heap := h' }) e c d (by decide) ⟨x, H, I1, ru, ⟨rfl, fun ys hy => by rw [I.list_inj hy hq]; exact hx⟩, st', fun b hb => (hf b hb).1⟩⟩
  done := by
    intro X hP hw hK hc i pins s σ H E I hf st hg
    subst hP hw hK
    obtain ⟨xs, hq, hx⟩ := hg
    obtain ⟨its, rv, p, hz⟩ := I.list hq
    obtain ⟨f0, f1, f2, f3, f4, f5⟩ := hf it (by simp)
    have hl := rv.length
    exact wpAny_pyNext_list_end (I.ok.hd hc) st p.isList (by simp; omega) fun h' eb => ⟨rfl, I.turned (t' := s.toks) (fun b o hb e => eb b o hb e) f0 f1 f3 f4 f5⟩
  self := fun _ _ _ _ _ st h => wpAny_pyIter_listiter st h
theorem turn_range {P : Program} {w : World} {K : PySem.W.Frag} {tg : Expr} (it : Addr) (lo : Int) (n : Nat) : Turn P w K tg (Itr lo n) [it] it (fun i h => IsRangeIter h it (lo + (i : Nat) * 1) ((n : Int) - (i : Nat)) 1) where
  mem := by simp
  obj := fun i h st b hb => by
    have e : b = it := by simpa using hb
    subst e
    exact ⟨_, st, fun v z => by
      have z' : Data.fields _ = Data.cell v := z
      cases z'⟩
  keep := fun i h h' st k => k it (by simp) _ st
  item := by
    intro X hP hw hK hc i pins s σ H E I hf st hg
    subst hP hw hK
    obtain ⟨f0, f1, f2, f3, f4, f5⟩ := hf it (by simp)
    have W := Walks.range (prog := X.prog) (w := X.w) (I.ok.hd hc) it lo 1 n
    refine W.item i s _ _ hg st fun v h' tk hv st' kk => ?_
    obtain ⟨t, rfl⟩ := hv
    have I1 : Inv X pins σ H { s with heap := h', toks := tk } := I.turned (fun b o hb e => kk b o (by simpa using hb) e) f0 f1 f3 f4 f5
    refine ⟨_, rfl, go_of (s := { s with heap := h', toks := tk }) (n := "range_iterator") st' rfl rfl (by decide) ⟨.int (lo + i), H, I1, ⟨t, ?_⟩, ⟨rfl, rfl⟩, st', fun b hb => (hf b hb).1⟩⟩
    rw [Int.mul_one]
  done := by
    intro X hP hw hK hc i pins s σ H E I hf st hg
    subst hP hw hK
    obtain ⟨f0, f1, f2, f3, f4, f5⟩ := hf it (by simp)
    exact wpAny_pyNext_range_end (I.ok.hd hc) st (by have : n ≤ i := hg; omega) fun h' eb => ⟨rfl, I.turned (t' := s.toks) (fun b o hb e => eb b o hb e) f0 f1 f3 f4 f5⟩
  self := fun _ _ _ _ _ st h => wpAny_pyIter_rangeiter st h
end L2
namespace L2
open PySem PySem.Spec PyProof.Rows
section
variable {X : Cx} {tg : Expr}
inductive iListI (K : PySem.W.Frag) (R : It → Hp → Prop) (x : V) (H1 : Hp) : Prop where
  | mk(a)(_ : x = .ref a)(_ : (∃ xs, SqL K H1 a xs))(_ : R (Itl K a) H1)
def iList (K : PySem.W.Frag) (tl : TE) : TI := fun σ H R => tl σ H fun x H1 => iListI K R x H1
theorem pi_list {l : Expr} {tl : TE} (hl : PE X l tl) : PI X tg l (iList X.K tl) := by
  intro pins s σ H R I h
  refine thn (hl pins s σ H _ I h) fun v s1 ⟨x, H1, I1, r1, q1⟩ => ?_
  obtain ⟨a, e, ⟨xs, hq⟩, q⟩ := q1
  subst e
  cases r1
  obtain ⟨its, rv, p, hz⟩ := I1.list hq
  refine wpAny_pyIter_list p.isList ?_
  refine ⟨s1.heap.objs.size, [s1.heap.objs.size], _, _, H1, rfl, I1.kept (t' := s1.toks) fun b o e => Heap.get?_push_of_some _ e, turn_list a _, ⟨_, Heap.get?_push_size _ rfl, rfl, rfl⟩, fun b hb => ?_, q⟩
  have e : b = s1.heap.objs.size := by simpa using hb
  subst e
  exact I1.fpOk (Nat.le_refl _) (I1.hok.fresh (Nat.le_refl _))
/-- a range object just made, walked -/
theorem range_it {pins : List (Addr × Obj)} {σ : St} {H : Hp} {s : Shared} {R : It → Hp → Prop} {E : Value → Shared → Prop} {lo hi : Int} {t u v : Tok} {tk : Nat} (I : Inv X pins σ H s) (h1 : -(2 ^ 62) ≤ lo) (h2 : lo < 2 ^ 62) (h3 : -(2 ^ 62) ≤ hi) (h4 : hi < 2 ^ 62)
    (q : R (Itr lo (hi - lo).toNat) H) : wpAny (model X.prog X.w) X.A (pyIter (.ref s.heap.objs.size)) (PIE X pins σ tg R) E { s with heap := s.heap.push { cls := .type "range", data := .fields #[.int lo t, .int hi u, .int 1 v] }, toks := tk } := by
  refine wpAny_pyIter_range (IsRange.new ..) (small_one h1 h2 h3 h4) ?_
  have I1 : Inv X pins σ H { s with heap := s.heap.push { cls := .type "range", data := .fields #[.int lo t, .int hi u, .int 1 v] }, toks := tk } := I.kept fun b o e => Heap.get?_push_of_some _ e
  refine ⟨(s.heap.push { cls := .type "range", data := .fields #[.int lo t, .int hi u, .int 1 v] }).objs.size, [(s.heap.push { cls := .type "range", data := .fields #[.int lo t, .int hi u, .int 1 v] }).objs.size], _, _, H, rfl,
    I1.kept (t' := tk) fun b o e => Heap.get?_push_of_some _ e, turn_range _ lo (hi - lo).toNat, ?_, fun b hb => ?_, q⟩
  · have e1 : lo + ((0 : Nat) : Int) * 1 = lo := by simp
    have e2 : (((hi - lo).toNat : Nat) : Int) - ((0 : Nat) : Int) = Builtin.Range.rangeSize lo hi 1 := by rw [rangeSize_one]; split <;> omega
    show IsRangeIter _ _ (lo + ((0 : Nat) : Int) * 1) ((((hi - lo).toNat : Nat) : Int) - ((0 : Nat) : Int)) 1
    rw [e1, e2]
    exact Heap.get?_push_size _ rfl
  · have e : b = (s.heap.push { cls := .type "range", data := .fields #[.int lo t, .int hi u, .int 1 v] }).objs.size := by simpa using hb
    subst e
    exact I1.fpOk (Nat.le_refl _) (I1.hok.fresh (Nat.le_refl _))
def iRng1 (ta : TA) : TI := fun σ H R => ta σ H fun vs H1 => ∃ j : Int, vs = [.int j] ∧ -(2 ^ 62) ≤ j ∧ j < 2 ^ 62 ∧ R (Itr 0 j.toNat) H1
def iRng2 (ta : TA) : TI := fun σ H R => ta σ H fun vs H1 => ∃ i j : Int, vs = [.int i, .int j] ∧ (-(2 ^ 62) ≤ i ∧ i < 2 ^ 62 ∧ -(2 ^ 62) ≤ j ∧ j < 2 ^ 62) ∧ R (Itr i (j - i).toNat) H1
theorem pi_range1 {a : Expr} {ta : TA} {p pos : Pos} (hg : Gl X "range") (hm : X.mg "range" = none) (ha : PA X [a] ta) (hs : starEach [a] X.env = [(false, eval a X.env)] := by rfl) : PI X tg (.Call (.Name "range" p) [a] [] pos) (iRng1 ta) := by
  intro pins s σ H R I h
  refine Call_ (ld_blt I hg hm boot_range (PyProof.Rows.callWith_type1 (thn (ha pos pins s σ H _ I h) fun us s1 ⟨vs, H1, I1, r1, q1⟩ => ?_) hs rfl))
  obtain ⟨j, e, q1, q2, q⟩ := q1
  subst e
  cases r1 with
  | cons r rr =>
    cases rr
    obtain ⟨t, rfl⟩ := r
    exact call_range_1 (range_it I1 (by omega) (by omega) q1 q2 (by simpa using q))
theorem pi_range2 (hg : Gl X "range") (hm : X.mg "range" = none) (ha : PA X [a, b] ta) (hs : starEach [a, b] X.env = [(false, eval a X.env), (false, eval b X.env)] := by rfl) (hs2 : starEach [b] X.env = [(false, eval b X.env)] := by rfl) :
    PI X tg (.Call (.Name "range" p) [a, b] [] pos) (iRng2 ta) := by
  intro pins s σ H R I h
  refine Call_ (ld_blt I hg hm boot_range (PyProof.Rows.callWith_type1 (thn (ha pos pins s σ H _ I h) fun us s1 ⟨vs, H1, I1, r1, q1⟩ => ?_) (by rw [hs, hs2]) (by rw [hs2]; rfl)))
  obtain ⟨i, j, e, ⟨q1, q2, q3, q4⟩, q⟩ := q1
  subst e
  cases r1 with
  | cons r rr =>
    cases rr with
    | cons r' rr =>
      cases rr
      obtain ⟨t, rfl⟩ := r
      obtain ⟨t', rfl⟩ := r'
      exact call_range_2 (range_it I1 q1 q2 q3 q4 q)
/-! ### for -/
/-- W: the invariant by the turn and a measure; N: what the body is to reach -/
def tFor (wi : TI) (g : TG) (tb : TS) : TS := fun D σ H => wi σ H fun J H1 => ∃ W : Nat → Nat → St → Hp → Prop, (∃ m, W 0 m σ H1) ∧ ∀ i m σ H, W i m σ H →
  (J.stop i H ∧ D.nx σ H) ∨ (J.go i H ∧ ∃ N : St → Hp → Prop, (∀ σ' H', N σ' H' → ∃ m', m' < m ∧ W (i + 1) m' σ' H') ∧ ∀ x H', J.yld i H x H' → g x σ H' fun σ2 H2 => tb { D with nx := N, ct := N, bk := D.nx } σ2 H2)
/-- the records at fp as they stand -/
def pinsAt (fp : List Addr) (h : Heap) : List (Addr × Obj) := fp.filterMap fun b => (h.get? b).map fun o => (b, o)
theorem mem_pinsAt (hb : b ∈ fp) (e : h.get? b = some o) : (b, o) ∈ pinsAt fp h := List.mem_filterMap.mpr ⟨b, hb, by rw [e]; rfl⟩
theorem of_pinsAt (hp : p ∈ pinsAt fp h) : p.1 ∈ fp ∧ h.get? p.1 = some p.2 := by
  obtain ⟨b, hb, e⟩ := List.mem_filterMap.mp hp
  cases q : h.get? b with
  | none => rw [q] at e; cases e
  | some o =>
    rw [q] at e
    have e' : (b, o) = p := Option.some.inj e
    subst e'
    exact ⟨hb, q⟩
theorem Inv.pinned (I : Inv X pins σ H s) (hf : ∀ b ∈ fp, FpOk X pins H b) (ho : ∀ b ∈ fp, ∃ o, s.heap.get? b = some o ∧ ∀ v, o.data ≠ .cell v) : Inv X (pins ++ pinsAt fp s.heap) σ H s :=
  I.pins_of fun p hp => (List.mem_append.mp hp).elim (fun z => I.pin p (List.mem_append_right _ z)) fun z => by
    obtain ⟨hb, e⟩ := of_pinsAt z
    obtain ⟨f0, f1, f2, _⟩ := hf p.1 hb
    obtain ⟨o, e', d⟩ := ho p.1 hb
    rw [e] at e'; cases e'
    exact ⟨e, f0, f1, f2, d⟩
theorem Inv.unpinned (I : Inv X (pins ++ pl) σ H s) : Inv X pins σ H s := I.pins_of fun p hp => I.pin p (List.mem_append_right _ (List.mem_append_left _ hp))
theorem ps_for (hp : PassesOwn (model X.prog X.w) X.A X.env X.xe) (hc : X.calm = true) (hi : PI X tg iter wi) (hg : PG X tg g) (hb : PSs X body tb)
    (hs : ∀ x, foldedSetIterable iter X.env x = pure x := by intro _; rfl) : PS X (.For tg iter body [] pos) (tFor wi g tb) := by
  intro pins s σ H D I h
  refine wpAny_For (thn (hi pins s σ H _ I h) fun v s1 h1 => thn h1 fun itv s2 h2 => ?_) hs
  obtain ⟨it, fp, tn, J, H2, e, I2, T, st2, f2, W, ⟨m0, w0⟩, turn⟩ := h2
  subst e
  -- what stays true of the iterator's objects through the loop
  have stat : ∀ {H' : Hp}, (∀ b ∈ fp, H' b = none) → ∀ b ∈ fp, FpOk X pins H' b := fun hn b hb => ⟨hn b hb, (f2 b hb).2⟩
  refine codeAny_forLoop_any (fun n s' => ∃ i σ' H', Inv X pins σ' H' s' ∧ tn i s'.heap ∧ (∀ b ∈ fp, H' b = none) ∧ W i n σ' H') ?_ m0 ⟨0, σ, H2, I2, st2, fun b hb => (f2 b hb).1, w0⟩
  rintro n s3 ⟨i, σ3, H3, I3, st3, fr3, w3⟩
  rcases turn i n σ3 H3 w3 with ⟨stop, qn⟩ | ⟨go, N, hN, step⟩
  · refine wpAny_passesOwn hp (thn (T.done X rfl rfl rfl hc i pins s3 σ3 H3 X.xe I3 (stat fr3) st3 stop) fun r s4 ⟨hr, I4⟩ => ?_)
    subst hr
    exact wpAny_execs_nil ⟨σ3, H3, I4, qn⟩
  · refine wpAny_passesOwn hp (thn (T.item X rfl rfl rfl hc i pins s3 σ3 H3 X.xe I3 (stat fr3) st3 go) fun r s4 ⟨u, hr, h4⟩ => ?_)
    subst hr
    refine wpAny_passesOwn hp (thn h4 fun _ s5 ⟨x, H5, I5, r5, y5, st5, fr5⟩ => ?_)
    have I5' := I5.pinned (stat fr5) (T.obj _ _ st5)
    refine wpAny_passesOwn hp (thn (hg _ s5 σ3 H5 x u _ I5' r5 (step x H5 y5)) fun _ s6 ⟨σ6, H6, I6, q6⟩ => ?_)
    refine wpAny_passesOwn hp (thn (hb _ s6 σ6 H6 _ I6 q6) fun f s7 q7 => ?_)
    have again : ∀ {σ7 : St} {H7 : Hp}, Inv X (pins ++ pinsAt fp s5.heap) σ7 H7 s7 → N σ7 H7 → ∃ m, m < n ∧ ∃ i σ' H', Inv X pins σ' H' s7 ∧ tn i s7.heap ∧ (∀ b ∈ fp, H' b = none) ∧ W i m σ' H' := fun {σ7 H7} I7 n7 => by
      obtain ⟨m', hm, w7⟩ := hN σ7 H7 n7
      refine ⟨m', hm, i + 1, σ7, H7, I7.unpinned, T.keep _ _ _ st5 fun b hb o e => (I7.pin (b, o) (List.mem_append_right _ (List.mem_append_right _ (mem_pinsAt hb e)))).1, fun b hb => ?_, w7⟩
      obtain ⟨o, e, d⟩ := T.obj _ _ st5 b hb
      exact (I7.pin (b, o) (List.mem_append_right _ (List.mem_append_right _ (mem_pinsAt hb e)))).2.1
    cases f with
    | next => obtain ⟨σ7, H7, I7, n7⟩ := q7; exact again I7 n7
    | cont => obtain ⟨σ7, H7, I7, n7⟩ := q7; exact again I7 n7
    | brk => obtain ⟨σ7, H7, I7, q7⟩ := q7; exact ⟨σ7, H7, I7.unpinned, q7⟩
    | ret v => obtain ⟨x7, σ7, H7, I7, r7, q7⟩ := q7; exact ⟨x7, σ7, H7, I7.unpinned, r7, q7⟩
end
/-! ### the forms one uses -/
/-- over a list that the body leaves as it is -/
theorem for_list {K : PySem.W.Frag} {a : Addr} {xs : List V} {g : TG} {tb : TS} {D : Ends} {σ : St} {H : Hp} (Pv : Nat → St → Hp → Prop) (h0 : Pv 0 σ H) (hl : ∀ i σ H, i ≤ xs.length → Pv i σ H → SqL K H a xs)
    (hs : ∀ i x σ H, xs[i]? = some x → Pv i σ H → g x σ H fun σ2 H2 => tb { D with nx := Pv (i + 1), ct := Pv (i + 1), bk := D.nx } σ2 H2) (hd : ∀ σ H, Pv xs.length σ H → D.nx σ H) :
    ∃ W : Nat → Nat → St → Hp → Prop, (∃ m, W 0 m σ H) ∧ ∀ i m σ H, W i m σ H →
      ((Itl K a).stop i H ∧ D.nx σ H) ∨ ((Itl K a).go i H ∧ ∃ N : St → Hp → Prop, (∀ σ' H', N σ' H' → ∃ m', m' < m ∧ W (i + 1) m' σ' H') ∧ ∀ x H', (Itl K a).yld i H x H' → g x σ H' fun σ2 H2 => tb { D with nx := N, ct := N, bk := D.nx } σ2 H2) := by
  refine ⟨fun i m σ H => m = xs.length - i ∧ i ≤ xs.length ∧ Pv i σ H, ⟨xs.length, by simp, Nat.zero_le _, h0⟩, ?_⟩
  rintro i m σ H ⟨rfl, hi, p⟩
  have q := hl i σ H hi p
  by_cases hlt : i < xs.length
  · refine .inr ⟨⟨xs, xs[i], q, by simp [hlt]⟩, Pv (i + 1), fun σ' H' p' => ⟨xs.length - (i + 1), by omega, rfl, hlt, p'⟩, fun x H' y => ?_⟩
    obtain ⟨e, y⟩ := y
    subst e
    exact hs i x σ _ (y xs q) p
  · have e : i = xs.length := by omega
    subst e
    exact .inl ⟨⟨xs, q, Nat.le_refl _⟩, hd σ H p⟩
theorem for_range {lo : Int} {n : Nat} {g : TG} {tb : TS} {D : Ends} {σ : St} {H : Hp} (Pv : Nat → St → Hp → Prop) (h0 : Pv 0 σ H)
    (hs : ∀ i σ H, i < n → Pv i σ H → g (.int (lo + i)) σ H fun σ2 H2 => tb { D with nx := Pv (i + 1), ct := Pv (i + 1), bk := D.nx } σ2 H2) (hd : ∀ σ H, Pv n σ H → D.nx σ H) :
    ∃ W : Nat → Nat → St → Hp → Prop, (∃ m, W 0 m σ H) ∧ ∀ i m σ H, W i m σ H →
      ((Itr lo n).stop i H ∧ D.nx σ H) ∨ ((Itr lo n).go i H ∧ ∃ N : St → Hp → Prop, (∀ σ' H', N σ' H' → ∃ m', m' < m ∧ W (i + 1) m' σ' H') ∧ ∀ x H', (Itr lo n).yld i H x H' → g x σ H' fun σ2 H2 => tb { D with nx := N, ct := N, bk := D.nx } σ2 H2) := by
  refine ⟨fun i m σ H => m = n - i ∧ i ≤ n ∧ Pv i σ H, ⟨n, by simp, Nat.zero_le _, h0⟩, ?_⟩
  rintro i m σ H ⟨rfl, hi, p⟩
  by_cases hlt : i < n
  · refine .inr ⟨hlt, Pv (i + 1), fun σ' H' p' => ⟨n - (i + 1), by omega, rfl, hlt, p'⟩, fun x H' y => ?_⟩
    obtain ⟨e, y⟩ := y
    subst e y
    exact hs i σ _ hlt p
  · have e : i = n := by omega
    subst e
    exact .inl ⟨Nat.le_refl _, hd σ H p⟩
end L2
namespace L2
open PySem PySem.Spec PyProof.Rows
abbrev R2 := V → V → Hp → VK → Prop
/-- a two-place operation on values: f is binaryOp op, inplaceOp op or compareOp op -/
def OpR (X : Cx) (f : Value → Value → Sem Value) (r : R2) : Prop :=
  ∀ (pins : List (Addr × Obj)) (s : Shared) (σ : St) (H : Hp) (x y : V) (v u : Value) (Q : VK), Inv X pins σ H s → RelV x v → RelV y u → r x y H Q →
    wpAny (model X.prog X.w) X.A (f v u) (EP X pins σ Q) X.xe s
/-- a one-place operation -/
def UnR (X : Cx) (f : Value → Sem Value) (r : V → Hp → VK → Prop) : Prop :=
  ∀ (pins : List (Addr × Obj)) (s : Shared) (σ : St) (H : Hp) (x : V) (v : Value) (Q : VK), Inv X pins σ H s → RelV x v → r x H Q →
    wpAny (model X.prog X.w) X.A (f v) (EP X pins σ Q) X.xe s
/-- a call of a value that is known (a builtin, a type) with values -/
def CallR (X : Cx) (f : Value) (r : List V → Hp → VK → Prop) : Prop :=
  ∀ (pins : List (Addr × Obj)) (s : Shared) (σ : St) (H : Hp) (xs : List V) (us : List Value) (Q : VK), Inv X pins σ H s → Vals xs us → r xs H Q →
    wpAny (model X.prog X.w) X.A (call f us) (EP X pins σ Q) X.xe s
def tOp (r : R2) (ta tb : TE) : TE := fun σ H Q => ta σ H fun x H1 => tb σ H1 fun y H2 => r x y H2 Q
def tUn (r : V → Hp → VK → Prop) (ta : TE) : TE := fun σ H Q => ta σ H fun x H1 => r x H1 Q
/-- ints in, under C, and a value out -/
inductive rI (C : Int → Int → Prop) (g : Int → Int → V) (x : V) (y : V) (H : Hp) (Q : VK) : Prop where
  | mk(i)(j)(_ : x = .int i)(_ : y = .int j)(_ : C i j ∧ Q (g i j) H)
inductive rI0 (g : Int → Int → V) (x : V) (y : V) (H : Hp) (Q : VK) : Prop where
  | mk(i)(j)(_ : x = .int i)(_ : y = .int j)(_ : Q (g i j) H)
inductive rU (g : Int → V) (x : V) (H : Hp) (Q : VK) : Prop where
  | mk(i)(_ : x = .int i)(_ : Q (g i) H)
section
variable {X : Cx} {a b c : Expr} {ta tb tc : TE} {pos : Pos}
theorem binT (ha : PE X a ta) (hb : PE X b tb) {pins : List (Addr × Obj)} {s : Shared} {σ : St} {H : Hp} {R : V → V → Hp → Prop} (I : Inv X pins σ H s)
    (h : ta σ H fun x H1 => tb σ H1 fun y H2 => R x y H2) {Q : Value → Shared → Prop} {f : Value → Value → Sem Value}
    (hf : ∀ v u s2 x y H2, Inv X pins σ H2 s2 → RelV x v → RelV y u → R x y H2 → wpAny (model X.prog X.w) X.A (f v u) Q X.xe s2) :
    wpAny (model X.prog X.w) X.A (eval a X.env) (fun v s₁ => wpAny (model X.prog X.w) X.A (eval b X.env) (fun u s₂ => wpAny (model X.prog X.w) X.A (f v u) Q X.xe s₂) X.xe s₁) X.xe s := by
  refine thn (ha pins s σ H _ I h) fun v s1 ⟨x, H1, I1, r1, q1⟩ => ?_
  refine thn (hb pins s1 σ H1 _ I1 q1) fun u s2 ⟨y, H2, I2, r2, q2⟩ => ?_
  exact hf v u s2 x y H2 I2 r1 r2 q2
theorem pe_op {op : Operator} {r : R2} (ho : OpR X (binaryOp op) r) (ha : PE X a ta) (hb : PE X b tb) : PE X (.BinOp a op b pos) (tOp r ta tb) := by
  intro pins s σ H Q I h
  exact wpAny_BinOp (binT ha hb I h fun v u s2 x y H2 I2 rx ry q => ho pins s2 σ H2 x y v u Q I2 rx ry q)
theorem pe_un (ho : UnR X (unaryOp op) r) (ha : PE X a ta) : PE X (.UnaryOp op a pos) (tUn r ta) := by
  intro pins s σ H Q I h
  exact UnaryOp_ (thn (ha pins s σ H _ I h) fun v s1 ⟨x, H1, I1, r1, q1⟩ => ho pins s1 σ H1 x v Q I1 r1 q1)
/-! ### ints -/
theorem opI {f : Value → Value → Sem Value} {C : Int → Int → Prop} {g : Int → Int → Int}
    (rule : ∀ (i j : Int) (t u : Tok) (s : Shared) (Q : Value → Shared → Prop) (E : Value → Shared → Prop), C i j → Q (.int (g i j) s.toks) { s with toks := s.toks + 1 } → wpAny (model X.prog X.w) X.A (f (.int i t) (.int j u)) Q E s) :
    OpR X f (rI C fun i j => .int (g i j)) := by
  intro pins s σ H x y v u Q I rx ry h
  obtain ⟨i, j, rfl, rfl, hc, q⟩ := h
  obtain ⟨t, rfl⟩ := rx
  obtain ⟨t', rfl⟩ := ry
  exact rule i j t t' s _ _ hc ⟨.int (g i j), H, I.tok _, ⟨_, rfl⟩, q⟩
theorem opI0 {f : Value → Value → Sem Value} {g : Int → Int → Int}
    (rule : ∀ (i j : Int) (t u : Tok) (s : Shared) (Q : Value → Shared → Prop) (E : Value → Shared → Prop), Q (.int (g i j) s.toks) { s with toks := s.toks + 1 } → wpAny (model X.prog X.w) X.A (f (.int i t) (.int j u)) Q E s) :
    OpR X f (rI0 fun i j => .int (g i j)) := by
  intro pins s σ H x y v u Q I rx ry h
  obtain ⟨i, j, rfl, rfl, q⟩ := h
  obtain ⟨t, rfl⟩ := rx
  obtain ⟨t', rfl⟩ := ry
  exact rule i j t t' s _ _ ⟨.int (g i j), H, I.tok _, ⟨_, rfl⟩, q⟩
theorem opB0 {f : Value → Value → Sem Value} {g : Int → Int → Bool}
    (rule : ∀ (i j : Int) (t u : Tok) (s : Shared) (Q : Value → Shared → Prop) (E : Value → Shared → Prop), Q (.bool (g i j)) s → wpAny (model X.prog X.w) X.A (f (.int i t) (.int j u)) Q E s) :
    OpR X f (rI0 fun i j => .bl (g i j)) := by
  intro pins s σ H x y v u Q I rx ry h
  obtain ⟨i, j, rfl, rfl, q⟩ := h
  obtain ⟨t, rfl⟩ := rx
  obtain ⟨t', rfl⟩ := ry
  exact rule i j t t' s _ _ ⟨.bl (g i j), H, I, rfl, q⟩
def CDiv (i j : Int) : Prop := 0 < j ∧ j < 1073741824
def CPow (i j : Int) : Prop := 0 ≤ j ∧ j ≤ 1000000 ∧ i.natAbs < 2 ^ 64
def CMul (i j : Int) : Prop := (-(2 ^ 64) < i ∧ i < 2 ^ 64) ∨ (-(2 ^ 64) < j ∧ j < 2 ^ 64)
theorem CMul.ok (h : CMul i j) : IntMulOk i j := by
  rcases h with ⟨h1, h2⟩ | ⟨h1, h2⟩
  · exact .of_left (intBits_le_64 h1 h2)
  · exact .of_right (intBits_le_64 h1 h2)
theorem op_add : OpR X (binaryOp .Add) (rI0 fun i j => .int (i + j)) := opI0 fun _ _ _ _ _ _ _ q => add_int q
theorem op_sub : OpR X (binaryOp .Sub) (rI0 fun i j => .int (i - j)) := opI0 fun _ _ _ _ _ _ _ q => sub_int q
theorem op_mul : OpR X (binaryOp .Mult) (rI CMul fun i j => .int (i * j)) := opI fun _ _ _ _ _ _ _ hc q => mul_int q hc.ok
/-- // by a positive divisor -/
theorem op_fdiv : OpR X (binaryOp .FloorDiv) (rI CDiv fun i j => .int (i / j)) := opI fun i j _ _ _ _ _ hc q => by
  have h1 : (0 : Int) < j := hc.1
  have h2 : j < 1073741824 := hc.2
  exact floordiv_int (by omega) (by rw [Int.fdiv_eq_ediv_of_nonneg i (by omega)]; exact q) (.inl (PyProof.noPylong_small (by omega)))
/-- % by a positive divisor of any size -/
theorem op_mod : OpR X (binaryOp .Mod) (rI (fun _ j => 0 < j) fun i j => .int (i % j)) := opI fun i j _ _ _ _ _ hc q => by
  have h1 : (0 : Int) < j := hc
  exact mod_int' (by omega) (by rw [Int.fmod_eq_emod_of_nonneg i (by omega)]; exact q)
theorem op_pow : OpR X (binaryOp .Pow) (rI CPow fun i j => .int (i ^ j.toNat)) := opI fun _ _ _ _ _ _ _ hc q => pow_int_small hc.1 hc.2.1 hc.2.2 q
theorem unI {f : Value → Sem Value} {g : Int → Int}
    (rule : ∀ (i : Int) (t : Tok) (s : Shared) (Q : Value → Shared → Prop) (E : Value → Shared → Prop), Q (.int (g i) s.toks) { s with toks := s.toks + 1 } → wpAny (model X.prog X.w) X.A (f (.int i t)) Q E s) :
    UnR X f (rU fun i => .int (g i)) := by
  intro pins s σ H x v Q I rx h
  obtain ⟨i, rfl, q⟩ := h
  obtain ⟨t, rfl⟩ := rx
  exact rule i t s _ _ ⟨.int (g i), H, I.tok _, ⟨_, rfl⟩, q⟩
theorem un_neg : UnR X (unaryOp .USub) (rU fun i => .int (-i)) := unI fun _ _ _ _ _ q => neg_int q
/-! ### bools among ints: n += (a < b) -/
end
/-! ### comparisons -/
/-- the scalars that == tells apart as data does -/
def scal : V → V → Bool
  | .non, .non => true | .non, .int _ => true | .int _, .non => true | .non, .bl _ => true | .bl _, .non => true | .non, .str _ => true | .str _, .non => true
  | .int _, .int _ => true | .bl _, .bl _ => true | .str _, .str _ => true | .byt _, .byt _ => true
  | .int _, .str _ => true | .str _, .int _ => true | .bl _, .str _ => true | .str _, .bl _ => true
  | _, _ => false
inductive rEq (x : V) (y : V) (H : Hp) (Q : VK) : Prop where
  | mk(_ : scal x y = true)(_ : Q (.bl (decide (x = y))) H)
inductive rNe (x : V) (y : V) (H : Hp) (Q : VK) : Prop where
  | mk(_ : scal x y = true)(_ : Q (.bl (!decide (x = y))) H)
theorem dec_int : decide (V.int i = V.int j) = (i == j) := by
  rw [Bool.eq_iff_iff]
  simp
theorem dec_bl : decide (V.bl i = V.bl j) = (i == j) := by
  rw [Bool.eq_iff_iff]
  simp
theorem dec_str : decide (V.str i = V.str j) = (i == j) := by
  rw [Bool.eq_iff_iff]
  simp
theorem dec_byt : decide (V.byt i = V.byt j) = (i.toList == j.toList) := by
  rw [Bool.eq_iff_iff]
  cases i
  cases j
  simp
section
variable {X : Cx} {a b c : Expr} {ta tb tc : TE} {pos : Pos}
theorem fin_bl (I : Inv X pins σ H s) (q : Q (.bl k) H) (e : k = k') : EP X pins σ Q (.bool k') s := by
  subst e
  exact ⟨.bl k, H, I, rfl, q⟩
theorem op_eq : OpR X (compareOp .Eq) rEq := by
  intro pins s σ H x y v u Q I rx ry h
  obtain ⟨hs, q⟩ := h
  cases x with
  | non =>
    cases rx
    cases y with
    | non => cases ry; exact PySem.EqNone.eq_none_none (fin_bl I q (by simp))
    | bl j => cases ry; exact PySem.EqNone.eq_none_bool (fin_bl I q (by simp))
    | int j => obtain ⟨t', rfl⟩ := ry; exact PySem.EqNone.eq_none_int (fin_bl I q (by simp))
    | str j => obtain ⟨t', rfl⟩ := ry; exact PySem.EqNone.eq_none_str (fin_bl I q (by simp))
    | _ => exact absurd (show false = true from hs) Bool.false_ne_true
  | bl i =>
    cases rx
    cases y with
    | non => cases ry; exact PySem.EqNone.eq_bool_none (fin_bl I q (by simp))
    | bl j => cases ry; exact eq_bool (fin_bl I q dec_bl)
    | str j => obtain ⟨t', rfl⟩ := ry; exact PySem.EqMixed.eq_bool_str (fin_bl I q (by simp))
    | _ => exact absurd (show false = true from hs) Bool.false_ne_true
  | int i =>
    obtain ⟨t, rfl⟩ := rx
    cases y with
    | non => cases ry; exact PySem.EqNone.eq_int_none (fin_bl I q (by simp))
    | int j => obtain ⟨t', rfl⟩ := ry; exact eq_int (fin_bl I q dec_int)
    | str j => obtain ⟨t', rfl⟩ := ry; exact PySem.EqMixed.eq_int_str (fin_bl I q (by simp))
    | _ => exact absurd (show false = true from hs) Bool.false_ne_true
  | str i =>
    obtain ⟨t, rfl⟩ := rx
    cases y with
    | non => cases ry; exact PySem.EqNone.eq_str_none (fin_bl I q (by simp))
    | bl j => cases ry; exact PySem.EqMixed.eq_str_bool (fin_bl I q (by simp))
    | int j => obtain ⟨t', rfl⟩ := ry; exact PySem.EqMixed.eq_str_int (fin_bl I q (by simp))
    | str j => obtain ⟨t', rfl⟩ := ry; exact eq_str (fin_bl I q dec_str)
    | _ => exact absurd (show false = true from hs) Bool.false_ne_true
  | byt i =>
    obtain ⟨t, rfl⟩ := rx
    cases y with
    | byt j => obtain ⟨t', rfl⟩ := ry; exact PySem.W.eq_bytes (fin_bl I q dec_byt)
    | _ => exact absurd (show false = true from hs) Bool.false_ne_true
  | _ => cases y <;> exact absurd (show false = true from hs) Bool.false_ne_true
theorem op_ne : OpR X (compareOp .NotEq) rNe := by
  intro pins s σ H x y v u Q I rx ry h
  obtain ⟨hs, q⟩ := h
  cases x with
  | non =>
    cases rx
    cases y with
    | non => cases ry; exact PySem.EqNone.ne_none_none (fin_bl I q (by simp))
    | bl j => cases ry; exact PySem.EqNone.ne_none_bool (fin_bl I q (by simp))
    | int j => obtain ⟨t', rfl⟩ := ry; exact PySem.EqNone.ne_none_int (fin_bl I q (by simp))
    | str j => obtain ⟨t', rfl⟩ := ry; exact PySem.EqNone.ne_none_str (fin_bl I q (by simp))
    | _ => exact absurd (show false = true from hs) Bool.false_ne_true
  | bl i =>
    cases rx
    cases y with
    | non => cases ry; exact PySem.EqNone.ne_bool_none (fin_bl I q (by simp))
    | bl j => cases ry; exact ne_bool (fin_bl I q (congrArg not dec_bl))
    | str j => obtain ⟨t', rfl⟩ := ry; exact PySem.EqMixed.ne_bool_str (fin_bl I q (by simp))
    | _ => exact absurd (show false = true from hs) Bool.false_ne_true
  | int i =>
    obtain ⟨t, rfl⟩ := rx
    cases y with
    | non => cases ry; exact PySem.EqNone.ne_int_none (fin_bl I q (by simp))
    | int j => obtain ⟨t', rfl⟩ := ry; exact ne_int (fin_bl I q (congrArg not dec_int))
    | str j => obtain ⟨t', rfl⟩ := ry; exact PySem.EqMixed.ne_int_str (fin_bl I q (by simp))
    | _ => exact absurd (show false = true from hs) Bool.false_ne_true
  | str i =>
    obtain ⟨t, rfl⟩ := rx
    cases y with
    | non => cases ry; exact PySem.EqNone.ne_str_none (fin_bl I q (by simp))
    | bl j => cases ry; exact PySem.EqMixed.ne_str_bool (fin_bl I q (by simp))
    | int j => obtain ⟨t', rfl⟩ := ry; exact PySem.EqMixed.ne_str_int (fin_bl I q (by simp))
    | str j => obtain ⟨t', rfl⟩ := ry; exact ne_str (fin_bl I q (congrArg not dec_str))
    | _ => exact absurd (show false = true from hs) Bool.false_ne_true
  | byt i =>
    obtain ⟨t, rfl⟩ := rx
    cases y with
    | byt j => obtain ⟨t', rfl⟩ := ry; exact PySem.W.ne_bytes (fin_bl I q (congrArg not dec_byt))
    | _ => exact absurd (show false = true from hs) Bool.false_ne_true
  | _ => cases y <;> exact absurd (show false = true from hs) Bool.false_ne_true
theorem op_lt : OpR X (compareOp .Lt) (rI0 fun i j => .bl (decide (i < j))) := opB0 fun _ _ _ _ _ _ _ q => lt_int q
theorem op_gt : OpR X (compareOp .Gt) (rI0 fun i j => .bl (decide (j < i))) := opB0 fun _ _ _ _ _ _ _ q => gt_int q
theorem op_ge : OpR X (compareOp .GtE) (rI0 fun i j => .bl (decide (j ≤ i))) := opB0 fun _ _ _ _ _ _ _ q => ge_int q
/-- is None, is not None: the right side a value none -/
theorem op_isN : OpR X (compareOp .Is) (fun x y H Q => y = .non ∧ Q (.bl (decide (x = .non))) H) := by
  intro pins s σ H x y v u Q I rx ry h
  obtain ⟨rfl, q⟩ := h
  cases ry
  refine is_none_gen (fin_bl I q ?_)
  cases x <;> first
    | (cases rx; rfl)
    | (obtain ⟨t, rfl⟩ := rx; rfl)
theorem nomark (b : Expr) (h : op ≠ .In := by decide) (h2 : op ≠ .NotIn := by decide) : behindInMarks op b = false := by
  have e1 : (op == CmpOp.In) = false := by cases op <;> first | rfl | exact absurd rfl h
  have e2 : (op == CmpOp.NotIn) = false := by cases op <;> first | rfl | exact absurd rfl h2
  cases b <;> simp [behindInMarks, e1, e2]
/-- a comparison as a value; hm: nomark b, or (for in, not in) by with_unfolding_all rfl -/
theorem pe_cmpR {op : CmpOp} {r : R2} (ho : OpR X (compareOp op) r) (ha : PE X a ta) (hb : PE X b tb) (hm : behindInMarks op b = false) : PE X (.Compare a [op] [b] pos) (tOp r ta tb) := by
  intro pins s σ H Q I h
  exact wpAny_Compare1 (binT ha hb I h fun v u s2 x y H2 I2 rx ry q => ho pins s2 σ H2 x y v u Q I2 rx ry q) hm
/-- a reading of a value as a test -/
def tTest (t : TE) : TT := fun σ H Q => t σ H fun x H' => ∃ k, x = .bl k ∧ Q k H'
theorem pt_cmpR (ho : OpR X (compareOp op) r) (ha : PE X a ta) (hb : PE X b tb) (hm : behindInMarks op b = false) : PT X (.Compare a [op] [b] pos) (tTest (tOp r ta tb)) := by
  intro pins s σ H Q I h
  refine wpAny_isTrue_Compare1 (thn (ha pins s σ H _ I h) fun v s1 ⟨x, H1, I1, r1, q1⟩ => thn (hb pins s1 σ H1 _ I1 q1) fun u s2 ⟨y, H2, I2, r2, q2⟩ =>
    thn (ho pins s2 σ H2 x y v u _ I2 r1 r2 q2) fun c s3 ⟨z, H3, I3, r3, k, e, q3⟩ => ?_) hm
  subst e
  cases r3
  exact wpAny_truthy_bool ⟨H3, I3, q3⟩
/-! ### truth -/
theorem line63 : (sizeLine : Nat) < 2 ^ 63 := by rw [sizeLine_eq]; decide
/-! ### strs and bytes -/
/-! ### scalar builtins, by CallR -/
theorem vals1 (r : Vals [x] us) : ∃ u, us = [u] ∧ RelV x u := by
  cases r with
  | cons r1 r2 => cases r2; exact ⟨_, rfl, r1⟩
theorem vals2 (r : Vals [x, y] us) : ∃ u w', us = [u, w'] ∧ RelV x u ∧ RelV y w' := by
  cases r with
  | cons r1 r2 =>
    cases r2 with
    | cons r3 r4 => cases r4; exact ⟨_, _, rfl, r1, r3⟩
end
end L2
namespace L2
open PySem PySem.Spec PyProof.Rows
/-! ### an instance, its attributes a map -/
structure ObjM (h : Heap) (x dx C : Addr) (mA : Str → Option Value) : Prop where
  obj : h.get? x = some (PySem.W.instObj C dx)
  ns : h.Ns1 dx mA
  ne : dx ≠ x
theorem lookIn_ns {h : Heap} {dx : Addr} {mA : Str → Option Value} (n : h.Ns1 dx mA) : ∃ od, h.get? dx = some od ∧ ∀ name, PySem.W.lookIn name od = some (mA name) := by
  obtain ⟨o, es, ep, ho, hd, hk, _, hm⟩ := n
  refine ⟨o, ho, fun name => ?_⟩
  have e := hm name
  unfold nsFind findBy at e
  rw [← Array.find?_toList] at e
  unfold PySem.W.lookIn
  rw [hd]
  dsimp only
  split
  · rename_i y q
    rw [q] at e
    exact congrArg some e
  · rename_i q
    rw [q] at e
    have a : es.toList.any (·.refKey) = false := by
      rw [List.any_eq_false]
      intro y hy
      obtain ⟨z, t, hkey⟩ := hk y (Array.mem_toList_iff.mp hy)
      simp [DictEntry.refKey, hkey]
    have a' : ¬ es.toList.any (·.refKey) = true := by rw [a]; exact Bool.false_ne_true
    rw [if_neg a']
    exact congrArg some e
theorem ObjM.look (I : ObjM h x dx C mA) : ∃ od, PySem.W.InstAt h x (PySem.W.instObj C dx) C (some od) ∧ ∀ name, PySem.W.lookIn name od = some (mA name) :=
  let ⟨od, ho, hl⟩ := lookIn_ns I.ns
  ⟨od, ⟨I.obj, rfl, rfl, ho⟩, hl⟩
section
variable {prog : Program} {w : World} {A : Around} {E : Value → Shared → Prop} {s : Shared} {K : PySem.W.Frag} {x dx C f : Addr} {mA : Str → Option Value} {name : Str} {v : Value}
theorem get_map (X : K.In s.heap) (I : ObjM s.heap x dx C mA) (hg : PySem.W.plainGet K C name = true) (hh : PySem.W.hasDictIn K C = true)
    (ha : PySem.W.findIn K (.ref C) name = some none) (hv : mA name = some v) (hv' : PySem.W.handedIn v = true) (h : Q v { s with toks := s.toks + 1 }) :
    wpAny (model prog w) A (getAttr (.ref x) name expr) Q E s := by
  obtain ⟨od, J, hl⟩ := I.look
  exact PySem.W.get_value X J (PySem.W.plainGet_of hg).1 (PySem.W.findObj_own hh ha rfl (by rw [hl, hv])) hv' h
theorem get_meth (X : K.In s.heap) (I : ObjM s.heap x dx C mA) (hg : PySem.W.plainGet K C name = true)
    (hf : PySem.W.findIn K (.ref C) name = some (some (.ref f))) (ht : PySem.W.isFn K (.ref f) = true) (hv : mA name = none) (h : Q (.ref f, [.ref x]) s) :
    wpAny (model prog w) A (getMethod (.ref x) name pl) Q E s := by
  obtain ⟨od, J, hl⟩ := I.look
  exact PySem.W.method_fn X J (PySem.W.plainGet_of hg).1 (PySem.W.plainGet_of hg).2 hf (beq_iff_eq.mp ht) (by show (PySem.W.lookIn name od).map (·.isSome) = some false; rw [hl, hv]; rfl) h
theorem set_map (X : K.In s.heap) (I : ObjM s.heap x dx C mA)
    (hs : PySem.W.findIn K (.ref C) "__setattr__" = some (some (.builtin "object.__setattr__"))) (hp : PySem.W.plainOver K C = true) (ht : PySem.W.takerIn K C name = some none) (hh : PySem.W.hasDictIn K C = true)
    (hw : PySem.Within mA ns) (hsz : ns.length ≤ sizeLine)
    (h : ∀ h', ObjM h' x dx C (fun y => if y = name then some v else mA y) → Heap.SameBut dx s.heap h' → Q () { s with heap := h', toks := s.toks + 2 }) :
    wpAny (model prog w) A (setAttr (.ref x) name v) Q E s := by
  obtain ⟨od, J, hl⟩ := I.look
  refine PySem.W.set_plain X J hs (PySem.W.osa_open (s := { s with toks := s.toks + 1 }) (r := none) X J hp ht fun b => ?_)
  obtain ⟨cd, hc, hd'⟩ := PySem.W.any_some hh
  have hx : s.heap.get? x = some ⟨.ref C, some dx, .plain, #[]⟩ := I.obj
  refine wpAny_bind (wpAny_pure (wpAny_bind (wpAny_bind (wpAny_loadPart hx (wpAny_bind (PySem.W.Looks.here (s := { s with toks := s.toks + 1 }) (PySem.W.looks_clsIn X hc) ?_))))))
  rw [hd']
  refine wpAny_pure (a := some dx) (wpAny_bind (wpAny_pure (wpAny_bind ?_)))
  refine wpAny_nsSet1 (s := { s with toks := s.toks + 1 }) I.ns fun h' hn2 hs2 => ?_
  obtain ⟨oD, esD, epD, hoD, hdD, hcD⟩ := hn2.count (PySem.Within.cons name v hw)
  refine wpAny_bind (wpAny_lookBehind hoD (by rw [hdD]; exact pastItsLine_dict (Nat.le_trans hcD (by rw [List.length_cons]; omega))) ?_)
  exact wpAny_pure (h _ ⟨(hs2.2 _ (Ne.symm I.ne)).trans I.obj, hn2, I.ne⟩ hs2)
/-- C(..): the dict at the heap's end, the instance behind it; then its __init__ -/
theorem make_map (X : K.In s.heap) (hm : PySem.W.makesIn K C = true)
    (hi : PySem.W.findIn K (.ref C) "__init__" = some (some (.ref f))) (hf : PySem.W.typeIn K (.ref f) = some (.type "function"))
    (h : codeAny (model prog w) (A.under (.builtin "type.__call__" ⟨.ref C :: vs, kw⟩)) (.call (.ref f) ⟨.ref (s.heap.objs.size + 1) :: vs, kw⟩) (PySem.W.InitBack (s.heap.objs.size + 1) R)
      { s with heap := (s.heap.push PySem.W.emptyDict).push (PySem.W.instObj C s.heap.objs.size) }) :
    codeAny (model prog w) A (.call (.ref C) ⟨vs, kw⟩) R s := by
  obtain ⟨hh, g, d, t, os⟩ := s
  exact PySem.W.make_core (PySem.W.makes_of X hm) (PySem.W.looks_findIn X hi) (fun self => PySem.W.bind_fn X self hf) (.inl rfl) h
end
/-! ### the attributes as a list of pairs -/
def putF (f : Str) (v : V) : List (Str × V) → List (Str × V)
  | [] => [(f, v)]
  | (g, x) :: r => if g = f then (g, v) :: r else (g, x) :: putF f v r
theorem lookup_putF (f g : Str) (v : V) : ∀ fs : List (Str × V), (putF f v fs).lookup g = if g = f then some v else fs.lookup g
  | [] => by
    show List.lookup g [(f, v)] = _
    by_cases h : g = f
    · have hb : (g == f) = true := beq_iff_eq.mpr h
      simp only [List.lookup, hb, if_pos h]
    · have hb : (g == f) = false := beq_eq_false_iff_ne.mpr h
      simp only [List.lookup, hb, if_neg h]
  | (k, x) :: r => by
    have ih := lookup_putF f g v r
    rw [show putF f v ((k, x) :: r) = (if k = f then (k, v) :: r else (k, x) :: putF f v r) from rfl]
    by_cases hk : k = f
    · rw [if_pos hk]
      by_cases h : g = k
      · have hb : (g == k) = true := beq_iff_eq.mpr h
        simp only [List.lookup, hb, if_pos (h.trans hk)]
      · have hb : (g == k) = false := beq_eq_false_iff_ne.mpr h
        simp only [List.lookup, hb, if_neg (fun e : g = f => h (e.trans hk.symm))]
    · rw [if_neg hk]
      by_cases h : g = k
      · have hb : (g == k) = true := beq_iff_eq.mpr h
        simp only [List.lookup, hb, if_neg (fun e : g = f => hk (h.symm.trans e))]
      · have hb : (g == k) = false := beq_eq_false_iff_ne.mpr h
        simp only [List.lookup, hb]
        exact ih
theorem keys_putF (f : Str) (v : V) : ∀ fs : List (Str × V), f ∈ (putF f v fs).map (·.1) ∧ ∀ g, g ∈ fs.map (·.1) → g ∈ (putF f v fs).map (·.1)
  | [] => ⟨by simp [putF], fun g h => by simp at h⟩
  | (k, x) :: r => by
    obtain ⟨i1, i2⟩ := keys_putF f v r
    rw [show putF f v ((k, x) :: r) = (if k = f then (k, v) :: r else (k, x) :: putF f v r) from rfl]
    by_cases hk : k = f
    · rw [if_pos hk]
      subst hk
      exact ⟨by simp, fun g h => by simpa using h⟩
    · rw [if_neg hk]
      refine ⟨?_, fun g h => ?_⟩
      · rw [List.map_cons]
        exact List.mem_cons_of_mem _ i1
      · rw [List.map_cons] at h ⊢
        rcases List.mem_cons.mp h with e | e
        · exact List.mem_cons.mpr (.inl e)
        · exact List.mem_cons_of_mem _ (i2 g e)
theorem length_putF (f : Str) (v : V) : ∀ fs : List (Str × V), (putF f v fs).length ≤ fs.length + 1
  | [] => by simp [putF]
  | (k, x) :: r => by
    have ih := length_putF f v r
    rw [show putF f v ((k, x) :: r) = (if k = f then (k, v) :: r else (k, x) :: putF f v r) from rfl]
    by_cases hk : k = f
    · rw [if_pos hk, List.length_cons, List.length_cons]; omega
    · rw [if_neg hk, List.length_cons, List.length_cons]; omega
theorem RelO.some_of (r : RelO (some v) o) : ∃ u, o = some u ∧ RelV v u := by
  cases o with
  | none => exact (show False from r).elim
  | some u => exact ⟨u, rfl, r⟩
theorem RelO.none_of (r : RelO none o) : o = none := by
  cases o with
  | none => rfl
  | some u => exact (show False from r).elim
theorem handed_of (r : RelV v u) : PySem.W.handedIn u = true := by
  cases v with
  | non => cases (show u = Value.none from r); rfl
  | bl b => cases (show u = Value.bool b from r); rfl
  | int i => obtain ⟨t, e⟩ := (show ∃ t, u = Value.int i t from r); cases e; rfl
  | str x => obtain ⟨t, e⟩ := (show ∃ t, u = Value.str x t from r); cases e; rfl
  | byt b => obtain ⟨t, e⟩ := (show ∃ t, u = Value.bytes b t from r); cases e; rfl
  | flt b => obtain ⟨t, e⟩ := (show ∃ t, u = Value.float b t from r); cases e; rfl
  | ref a => cases (show u = Value.ref a from r); rfl
  | ty n => cases (show u = Value.type n from r); rfl
section
variable {P : Program} {w : World} {H H' : Hp} {h h' : Heap} {a C dx : Addr} {fs fs' : List (Str × V)}
theorem ins_get (hok : HOk P w H h) (e : H a = some (.ins C dx fs)) : ∃ mA, ObjM h a dx C mA ∧ (∀ f, RelO (fs.lookup f) (mA f)) ∧ PySem.Within mA (fs.map (·.1)) ∧ fs.length ≤ 1000 ∧ H dx = some (.own a) := by
  obtain ⟨d, z, ne, ob, mA, n, r, q⟩ := (show ObjOk P w H h a (.ins C dx fs) from hok a _ e)
  exact ⟨mA, ⟨ob, n, ne⟩, r, q, z, d⟩
end
/-! ### what of the text a class must have -/
structure Cls (K : PySem.W.Frag) (C : Addr) : Prop where
  pg : PySem.W.plainGet K C Str.empty = true
  hd : PySem.W.hasDictIn K C = true
  po : PySem.W.plainOver K C = true
  sa : PySem.W.findIn K (.ref C) "__setattr__" = some (some (.builtin "object.__setattr__"))
theorem Cls.get {K : PySem.W.Frag} {C : Addr} (c : Cls K C) (f : Str) : PySem.W.plainGet K C f = true := c.pg
/-- no class of it has the name -/
def NoAttr (K : PySem.W.Frag) (C : Addr) (f : Str) : Prop := PySem.W.findIn K (.ref C) f = some none
theorem NoAttr.taker {K : PySem.W.Frag} {C : Addr} {f : Str} (n : NoAttr K C f) : PySem.W.takerIn K C f = some none := by
  unfold PySem.W.takerIn
  rw [show PySem.W.findIn K (.ref C) f = some none from n]
  rfl
/-- a constant of the class -/
structure Con (K : PySem.W.Frag) (C : Addr) (f : Str) (v : V) (u : Value) : Prop where
  at_ : PySem.W.findIn K (.ref C) f = some (some u)
  rel : RelV v u
  get : PySem.W.specialIn K u "__get__" = some none
  cp : PySem.W.copiedNames.contains f = false
/-- a method: a plain def of the class or of one above it -/
structure Meth (K : PySem.W.Frag) (C : Addr) (m : Str) (f : Addr) : Prop where
  at_ : PySem.W.findIn K (.ref C) m = some (some (.ref f))
  fn : PySem.W.isFn K (.ref f) = true
  kp : PySem.W.keepIn K (.ref f) = true
section
variable {X : Cx} {pins : List (Addr × Obj)} {σ : St} {H : Hp} {s : Shared} {a C dx : Addr} {fs : List (Str × V)} {f : Str} {v : V} {A : Around} {E : Value → Shared → Prop}
theorem getattr_ok (I : Inv X pins σ H s) (e : H a = some (.ins C dx fs)) (c : Cls X.K C) (n : NoAttr X.K C f) (l : fs.lookup f = some v)
    (h : ∀ u s', Inv X pins σ H s' → RelV v u → Q u s') : wpAny (model X.prog X.w) A (getAttr (.ref a) f b) Q E s := by
  obtain ⟨mA, O, r, _, _, _⟩ := ins_get I.hok e
  obtain ⟨u, hu, ru⟩ := RelO.some_of (v := v) (o := mA f) (by rw [← l]; exact r f)
  exact get_map I.kIn O (c.get f) c.hd n hu (handed_of ru) (h u _ (I.tok _) ru)
theorem getmeth_ok (I : Inv X pins σ H s) (e : H a = some (.ins C dx fs)) (c : Cls X.K C) (k : Meth X.K C m g) (l : fs.lookup m = none)
    (h : Q (.ref g, [.ref a]) s) : wpAny (model X.prog X.w) A (getMethod (.ref a) m pl) Q E s := by
  obtain ⟨mA, O, r, _, _, _⟩ := ins_get I.hok e
  have hn : mA m = none := RelO.none_of (by rw [← l]; exact r m)
  exact get_meth I.kIn O (c.get m) k.at_ k.fn hn h
theorem setattr_ok (I : Inv X pins σ H s) (e : H a = some (.ins C dx fs)) (c : Cls X.K C) (n : NoAttr X.K C f) (hl : fs.length < 1000) (ry : RelV y u)
    (h : ∀ s', Inv X pins σ (upd H a (.ins C dx (putF f y fs))) s' → Q () s') : wpAny (model X.prog X.w) A (setAttr (.ref a) f u) Q E s := by
  obtain ⟨mA, O, r, wi, _, ho⟩ := ins_get I.hok e
  have hz : (fs.map (·.1)).length ≤ sizeLine := by rw [List.length_map, sizeLine_eq]; omega
  refine set_map I.kIn O c.sa c.po n.taker c.hd wi hz fun h' O' sb => h _ ?_
  have hd : ∃ o, h'.get? dx = some o := let ⟨o, _, _, e', _⟩ := O'.ns; ⟨o, e'⟩
  refine I.write (x := a) (e := dx) (by rw [e]; exact True.intro) (.inr ho) (fun b q hb z => (sb.2 b hb).trans z) hd ?_
  refine ⟨by rw [upd_ne O.ne]; exact ho, ?_, O.ne, O'.obj, _, O'.ns, fun g => ?_, fun g hg => ?_⟩
  · have := length_putF f y fs; omega
  · show RelO ((putF f y fs).lookup g) (if g = f then some u else mA g)
    rw [lookup_putF]
    by_cases q : g = f
    · rw [if_pos q, if_pos q]; exact ry
    · rw [if_neg q, if_neg q]; exact r g
  · by_cases q : g = f
    · rw [q]; exact (keys_putF f y fs).1
    · refine (keys_putF f y fs).2 g (wi g fun z => hg ?_)
      show (if g = f then some u else mA g) = none
      rw [if_neg q]; exact z
/-- a new instance, tracked, without attributes -/
theorem Inv.made (I : Inv X pins σ H s) : Inv X pins σ (upd (upd H s.heap.objs.size (.own (s.heap.objs.size + 1))) (s.heap.objs.size + 1) (.ins C s.heap.objs.size []))
    { s with heap := (s.heap.push PySem.W.emptyDict).push (PySem.W.instObj C s.heap.objs.size) } := by
  have e1 : (s.heap.push PySem.W.emptyDict).get? s.heap.objs.size = some PySem.W.emptyDict := Heap.get?_push_size s.heap rfl
  have e2 : ((s.heap.push PySem.W.emptyDict).push (PySem.W.instObj C s.heap.objs.size)).get? (s.heap.objs.size + 1) = some (PySem.W.instObj C s.heap.objs.size) := by
    have := Heap.get?_push_size (s.heap.push PySem.W.emptyDict) (o := PySem.W.instObj C s.heap.objs.size) rfl
    rwa [Heap.size_push] at this
  have e3 : (s.heap.push PySem.W.emptyDict).Ns s.heap.objs.size (fun _ => none) := ⟨PySem.W.emptyDict, #[], _, e1, rfl, (fun e he => absurd he (by simp)), fun _ => rfl⟩
  have I1 := I.laid (a := s.heap.objs.size) (o := .own (s.heap.objs.size + 1)) (h' := s.heap.push PySem.W.emptyDict) (t' := s.toks) (fun b u q => Heap.get?_push_of_some _ q) (Nat.le_refl _) ⟨_, e1⟩
  refine I1.laid (a := s.heap.objs.size + 1) (o := .ins C s.heap.objs.size []) (t' := s.toks) (fun b u q => Heap.get?_push_of_some _ q) (Nat.le_of_eq (Heap.size_push _ _)) ?_
  have ne : s.heap.objs.size ≠ s.heap.objs.size + 1 := Nat.ne_of_lt (Nat.lt_succ_self _)
  refine ⟨by rw [upd_ne ne, upd_same], Nat.zero_le _, ne, e2, fun _ => none, (Heap.Ns1.of_empty e3).at fun o q => Heap.get?_push_of_some _ q, fun _ => True.intro, fun y hy => absurd rfl hy⟩
/-- e.f where nothing but the object is asked: through attributeBase (super) and the last hold -/
theorem attr_of (hb : attributeBase e f env (eval e env) = eval e env)
    (h : wpAny (model prog w) A (eval e env) (fun o s₁ => wpAny (model prog w) A (getAttr o f true) Q E s₁) E s) : wpAny (model prog w) A (eval (.Attribute e f pos) env) Q E s :=
  Attribute_any_ h (by rw [arm_eval_Attribute, hb])
end
/-! ### readings and rules -/
/-- e.f, an attribute of the instance -/
inductive tFldI (K : PySem.W.Frag) (f : Str) (Q : VK) (x : V) (H1 : Hp) : Prop where
  | mk(a)(C)(dx)(fs)(v)(_ : x = .ref a)(_ : H1 a = some (.ins C dx fs))(_ : Cls K C)(_ : NoAttr K C f)(_ : fs.lookup f = some v)(_ : Q v H1)
def tFld (K : PySem.W.Frag) (ta : TE) (f : Str) : TE := fun σ H Q => ta σ H fun x H1 => tFldI K f Q x H1
/-- e.f = value -/
inductive sFldI (K : PySem.W.Frag) (f : Str) (D : Ends) (σ : L2.St) (y : V) (x : V) (H2 : Hp) : Prop where
  | mk(a)(C)(dx)(fs)(_ : x = .ref a)(_ : H2 a = some (.ins C dx fs))(_ : Cls K C)(_ : NoAttr K C f)(_ : fs.length < 1000)(_ : D.nx σ (upd H2 a (.ins C dx (putF f y fs))))
def sFld (K : PySem.W.Frag) (ta tv : TE) (f : Str) : TS := fun D σ H => tv σ H fun y H1 => ta σ H1 fun x H2 => sFldI K f D σ y x H2
section
variable {X : Cx} {o e value : Expr} {f : Str} {pos pos' tpos : Pos} {ta tv : TE}
theorem pe_fld (he : PE X e ta) (hb : attributeBase e f X.env (eval e X.env) = eval e X.env) : PE X (.Attribute e f pos) (tFld X.K ta f) := by
  intro pins s σ H Q I h
  refine attr_of hb (thn (he pins s σ H _ I h) fun u s1 ⟨x, H1, I1, rx, a, C, dx, fs, v, ex, ea, c, n, l, q⟩ => ?_)
  subst ex
  obtain rfl : u = Value.ref a := rx
  exact getattr_ok I1 ea c n l fun u' s2 I2 ru => ⟨v, H1, I2, ru, q⟩
theorem ps_fld (ha : PE X o ta) (hv : PE X value tv) (hs : swapsWith value (some (.Attribute o f pos')) pos.line X.env = pure false) : PS X (.Assign [.Attribute o f pos'] value pos) (sFld X.K ta tv f) := by
  intro pins s σ H D I h
  refine plainObj_wpAny_Assign_Attribute (thn (hv pins s σ H _ I h) fun u s1 ⟨y, H1, I1, ry, q⟩ => thn (ha pins s1 σ H1 _ I1 q) fun ov s2 ⟨x, H2, I2, rx, a, C, dx, fs, ex, ea, c, n, l, q2⟩ => ?_) hs
  subst ex
  obtain rfl : ov = Value.ref a := rx
  exact setattr_ok I2 ea c n l ry fun s3 I3 => ⟨σ, _, I3, q2⟩
end
/-! ### isinstance -/
section
variable {X : Cx} {pins : List (Addr × Obj)} {σ : St} {H : Hp} {s : Shared} {A : Around} {E : Value → Shared → Prop} {Q : Value → Shared → Prop} {c : Value} {b : Bool}
/-- the type of a value, as the fragment's deciders take it; for an instance its class -/
inductive TyOf (K : PySem.W.Frag) (H : Hp) : V → Value → Prop where
  | non : TyOf K H .non (.type "NoneType")
  | bl (x : Bool) : TyOf K H (.bl x) (.type "bool")
  | int (i : Int) : TyOf K H (.int i) (.type "int")
  | str (x : Str) : TyOf K H (.str x) (.type "str")
  | flt (x : UInt64) : TyOf K H (.flt x) (.type "float")
  | lst {a : Addr} {xs : List V} (e : H a = some (.lst xs)) : TyOf K H (.ref a) (.type "list")
  | frz {a : Addr} {o : Obj} {xs : List V} (e : H a = some (.frz o (.lst xs))) : TyOf K H (.ref a) (.type "list")
  | tup {a : Addr} {xs : List V} (e : H a = some (.tup xs)) : TyOf K H (.ref a) (.type "tuple")
  | dK {a : Addr} {kvs : List (Key × V)} (e : H a = some (.dK kvs)) : TyOf K H (.ref a) (.type "dict")
  | dT {a : Addr} {kvs : List (List Key × V)} (e : H a = some (.dT kvs)) : TyOf K H (.ref a) (.type "dict")
  | ins {a C dx : Addr} {fs : List (Str × V)} (e : H a = some (.ins C dx fs)) (cl : Cls K C) (ha : PySem.W.findIn K (.ref C) "__class__" = some (some (.builtin "object.__class__")))
      (hn : PySem.W.specialIn K (.builtin "object.__class__") "__get__" = some (some (.builtin "getset_descriptor.__get__"))) (htk : PySem.W.takesIn K (.builtin "object.__class__") = some true)
      (hm : PySem.W.mroIn K C (.type "object") = some true) : TyOf K H (.ref a) (.ref C)
/-- isinstance(x, c) for one class c, a built-in or an own one: kitOne's answer -/
theorem isinst_ok (I : Inv X pins σ H s) (rx : RelV x u) (ty : TyOf X.K H x t) (e : PySem.W.kitOne X.K t c = some b) (h : ∀ tk, Q (.bool b) { s with toks := tk }) :
    wpAny (model X.prog X.w) A (call (.builtin "isinstance") [u, c]) Q E s := by
  cases ty with
  | non => cases (show u = Value.none from rx); exact PySem.W.kia_one PySem.W.kitx_none I.kIn True.intro e (fun z => nomatch z) h
  | bl y => cases (show u = Value.bool y from rx); exact PySem.W.kia_one PySem.W.kitx_bool I.kIn True.intro e (fun z => nomatch z) h
  | int i => obtain ⟨t, q⟩ := (show ∃ t, u = Value.int i t from rx); cases q; exact PySem.W.kia_one PySem.W.kitx_int I.kIn True.intro e (fun z => nomatch z) h
  | str y => obtain ⟨t, q⟩ := (show ∃ t, u = Value.str y t from rx); cases q; exact PySem.W.kia_one PySem.W.kitx_str I.kIn True.intro e (fun z => nomatch z) h
  | flt y => obtain ⟨t, q⟩ := (show ∃ t, u = Value.float y t from rx); cases q; exact PySem.W.kia_one PySem.W.kitx_float I.kIn True.intro e (fun z => nomatch z) h
  | @lst a xs ea =>
    cases (show u = Value.ref a from rx)
    obtain ⟨_, _, n, _, h1⟩ := (show ObjOk X.prog X.w H s.heap a (.lst xs) from I.hok a _ ea)
    exact PySem.W.kia_one PySem.W.kitx_list I.kIn ⟨_, h1, rfl⟩ e (fun z => nomatch z) h
  | @frz a ob xs ea =>
    cases (show u = Value.ref a from rx)
    obtain ⟨_, _, _, n, _, h1⟩ := (show ObjOk X.prog X.w H s.heap a (.frz ob (.lst xs)) from I.hok a _ ea)
    exact PySem.W.kia_one PySem.W.kitx_list I.kIn ⟨_, h1, rfl⟩ e (fun z => nomatch z) h
  | @tup a xs ea =>
    cases (show u = Value.ref a from rx)
    obtain ⟨_, _, _, p⟩ := (show ObjOk X.prog X.w H s.heap a (.tup xs) from I.hok a _ ea)
    obtain ⟨o, h1, h2, _⟩ := p
    exact PySem.W.kia_one PySem.W.kitx_tuple I.kIn ⟨o, h1, h2⟩ e (fun z => nomatch z) h
  | @dK a kvs ea =>
    cases (show u = Value.ref a from rx)
    obtain ⟨_, _, vs, _, p⟩ := (show ObjOk X.prog X.w H s.heap a (.dK kvs) from I.hok a _ ea)
    obtain ⟨o, es, ep, h1, h2, _⟩ := p
    exact PySem.W.kia_one PySem.W.kitx_dict I.kIn ⟨o, h1, h2.1⟩ e (fun z => nomatch z) h
  | @dT a kvs ea =>
    cases (show u = Value.ref a from rx)
    obtain ⟨_, _, xs, _, o, es, ep, h1, h2, _⟩ := (show ObjOk X.prog X.w H s.heap a (.dT kvs) from I.hok a _ ea)
    exact PySem.W.kia_one PySem.W.kitx_dict I.kIn ⟨o, h1, h2.1⟩ e (fun z => nomatch z) h
  | @ins a C dx fs ea cl ha hn htk hm =>
    cases (show u = Value.ref a from rx)
    obtain ⟨mA, O, _⟩ := ins_get I.hok ea
    obtain ⟨od, J, _⟩ := O.look
    exact PySem.W.kia_one (PySem.W.kitx_own (cl.get _) cl.hd ha hn htk hm) I.kIn J e (fun z => nomatch z) h
end
end L2
namespace L2
open PySem PySem.Spec PyProof.Rows
/-! ### room -/
structure Room (k : Nat) (A : Around) : Prop where
  hd : A.handled = none
  dp : A.depth + 3 * k + 5 < recursionLimit
  un : A.units + 16 * k + 200 < cLine
theorem Room.mono (r : Room k A) (h : j ≤ k) : Room j A := ⟨r.hd, by have := r.dp; omega, by have := r.un; omega⟩
theorem Room.deeper (r : Room (k + 1) A) (env : Env) : Room k (A.deeper env) :=
  ⟨r.hd, by have := r.dp; show A.depth + 1 + 3 * k + 5 < _; omega, by have := r.un; show A.units + 3 + 16 * k + 200 < _; omega⟩
theorem make_depth {A : Around} {C : Addr} {us : List Value} {kw : List (Str × Value)} : (A.under (.builtin "type.__call__" ⟨.ref C :: us, kw⟩)).depth = A.depth + 1 := by
  first | rfl | simp [Around.under, Code.weight, Code.isCreation, Code.isGuard, Code.isCaller, Code.frames, Code.isFrame, guardIds]
theorem make_units {A : Around} {C : Addr} {us : List Value} {kw : List (Str × Value)} : (A.under (.builtin "type.__call__" ⟨.ref C :: us, kw⟩)).units = A.units + 1 := by
  first | rfl | simp [Around.under, Code.cUnits, Code.frames, Code.isFrame]
theorem Room.make (r : Room (k + 1) A) (C : Addr) (us : List Value) (kw : List (Str × Value)) : Room k (A.under (.builtin "type.__call__" ⟨.ref C :: us, kw⟩)) :=
  ⟨r.hd, by have := r.dp; rw [make_depth]; omega, by have := r.un; rw [make_units]; omega⟩
theorem Room.depth (r : Room k A) : A.depth < recursionLimit := by have := r.dp; omega
theorem Room.units (r : Room k A) : A.units + 64 < cLine := by have := r.un; omega
/-! ### argument lists and displays -/
def tNil : TA := fun _ H Q => Q [] H
def tCons (ta : TE) (tr : TA) : TA := fun σ H Q => ta σ H fun x H1 => tr σ H1 fun xs H2 => Q (x :: xs) H2
section
variable {X : Cx} {e : Expr} {es : List Expr} {te : TE} {t : TA} {pos : Pos}
theorem pa_nil : PA X [] tNil := fun _ _ _ _ H Q I h => Calls.spliced_nil ⟨[], H, I, .nil, h⟩
theorem pa_cons (ha : PE X e te) (hr : PA X es t) (hs : starEach (e :: es) X.env = (false, eval e X.env) :: starEach es X.env := by rfl) : PA X (e :: es) (tCons te t) := by
  intro pos pins s σ H Q I h
  rw [hs]
  show wpAny _ _ (spliced ((false, eval e X.env) :: backTo pos (starEach es X.env))) _ _ s
  refine Calls.spliced_cons (thn (ha pins s σ H _ I h) fun u s1 ⟨x, H1, I1, r1, q1⟩ => ?_)
  exact thn (hr pos pins s1 σ H1 _ I1 q1) fun us s2 ⟨xs, H2, I2, r2, q2⟩ => ⟨x :: xs, H2, I2, .cons r1 r2, q2⟩
/-- a tuple, a list of written items -/
inductive tTupI (Q : VK) (xs : List V) (H1 : Hp) : Prop where
  | mk(_ : xs.length ≤ sizeLine)(_ : ∀ p, H1 p = none → Q (.ref p) (upd H1 p (.tup xs)))
def tTup (t : TA) : TE := fun σ H Q => t σ H fun xs H1 => tTupI Q xs H1
inductive tLstI (Q : VK) (xs : List V) (H1 : Hp) : Prop where
  | mk(_ : xs.length ≤ sizeLine)(_ : ∀ p, H1 p = none → Q (.ref p) (upd H1 p (.lst xs)))
def tLst (t : TA) : TE := fun σ H Q => t σ H fun xs H1 => tLstI Q xs H1
theorem pe_tup {x1} (h : PA X es t) : PE X (.Tuple es x1 pos) (tTup t) := by
  intro pins s σ H Q I hq
  refine wpAny_Tuple_spliced (thn (h pos pins s σ H _ I hq) fun us s1 ⟨xs, H1, I1, r, z, q⟩ => ⟨by rw [← r.length]; exact z, ?_⟩)
  have hf : H1 s1.heap.objs.size = none := I1.hok.fresh (Nat.le_refl _)
  refine ⟨.ref s1.heap.objs.size, upd H1 s1.heap.objs.size (.tup xs), I1.laid (t' := s1.toks) (fun b u e => Heap.get?_push_of_some _ e) (Nat.le_refl _) ?_, rfl, q _ hf⟩
  exact ⟨z, us, r, ⟨_, Heap.get?_push_size _ rfl, rfl, _, rfl⟩⟩
theorem pe_lst (h : PA X es t) : PE X (.List es pos) (tLst t) := by
  intro pins s σ H Q I hq
  refine wpAny_List_spliced (thn (h pos pins s σ H _ I hq) fun us s1 ⟨xs, H1, I1, r, z, q⟩ => ⟨by rw [← r.length]; exact z, ?_⟩)
  have hf : H1 s1.heap.objs.size = none := I1.hok.fresh (Nat.le_refl _)
  refine ⟨.ref s1.heap.objs.size, upd H1 s1.heap.objs.size (.lst xs), I1.laid (t' := s1.toks) (fun b u e => Heap.get?_push_of_some _ e) (Nat.le_refl _) ?_, rfl, q _ hf⟩
  exact ⟨z, us, 0, r, Heap.get?_push_size _ rfl⟩
end
/-! ### what a def promises -/
/-- a def's promise: the bound arguments in the parameters' order, the heap, the wanted end, the wanted exception -/
abbrev Sp := List V → Hp → VK → XK → Prop
/-- how an exception lies behind a call (file 08 gives it): the callers' frames, abstract heap and state ahead of the call, the wish, the exception, the state -/
abbrev CXT := List Env → Hp → Shared → XK → Value → Shared → Prop
/-- the state at a call -/
structure Env0 (P : Program) (w : World) (K : PySem.W.Frag) (mg : Str → Option Value) (base : Heap) (A : Around) (outer : List Env) (s : Shared) (H : Hp) : Prop where
  frames : A.frames = some outer
  mod : Mod K mg base
  bs : ∀ b o, base.get? b = some o → s.heap.get? b = some o ∧ H b = none
  bsz : base.objs.size ≤ s.heap.objs.size
  funs : s.heap.FunFrames base outer
  frf : ∀ b ∈ frs outer, H b = none
  hok : HOk P w H s.heap
  bare : AllBare s.gens
/-- a call's end -/
def CE (outer : List Env) (P : Program) (w : World) (H : Hp) (s : Shared) (Q : VK) (u : Value) (s' : Shared) : Prop :=
  ∃ v H', s'.os = s.os ∧ AllBare s'.gens ∧ Un (frs outer) [] H H' s.heap s'.heap ∧ HOk P w H' s'.heap ∧ RelV v u ∧ Q v H'
def CR (CX : CXT) (outer : List Env) (P : Program) (w : World) (H : Hp) (s : Shared) (Q : VK) (E : XK) (r : Result) (s' : Shared) : Prop :=
  match r with
  | .ok (.ret u) => CE outer P w H s Q u s'
  | .ok _ => False
  | .error e => CX outer H s E e s'
structure FnOk (P : Program) (w : World) (K : PySem.W.Frag) (mg : Str → Option Value) (base : Heap) (CX : CXT) (k : Nat) (f : Addr) (fd : FuncData) (ps : List Str) (sp : Sp) : Prop where
  len : ∀ vs H Q E, sp vs H Q E → vs.length = ps.length
  run : ∀ (A : Around) (outer : List Env) (s : Shared) (H : Hp) (args : Args) (us : List Value) (vs : List V) (Q : VK) (E : XK), Room k A → Env0 P w K mg base A outer s H → BindsTo s fd args (ps.zip us) → Vals vs us → sp vs H Q E →
    codeAny (model P w) A (.call (.ref f) args) (CR CX outer P w H s Q E) s
theorem Env0.make {P : Program} {w : World} {K : PySem.W.Frag} {mg : Str → Option Value} {base : Heap} {A : Around} {outer : List Env} {s : Shared} {H : Hp} (e : Env0 P w K mg base A outer s H) (C : Addr) (us : List Value) (kw : List (Str × Value)) :
    Env0 P w K mg base (A.under (.builtin "type.__call__" ⟨.ref C :: us, kw⟩)) outer s H := ⟨by first | exact e.frames | (simpa [Around.under, Code.envs, Code.isFrame, pushEnvs] using e.frames), e.mod, e.bs, e.bsz, e.funs, e.frf, e.hok, e.bare⟩
section
variable {X : Cx} {pins : List (Addr × Obj)} {σ : St} {H : Hp} {s s' : Shared}
/-- from a body: what a callee wants -/
theorem Inv.env0 (I : Inv X pins σ H s) : Env0 X.prog X.w X.K X.mg X.base X.A X.stack s H :=
  ⟨I.ok.frames, I.ok.mod, I.bs, Nat.le_trans I.ok.bsz I.sz, I.stack, I.stkFree, I.hok, I.bare⟩
/-- behind a call -/
theorem Inv.after (I : Inv X pins σ H s) (h : CE X.stack X.prog X.w H s Q u s') : EP X pins σ Q u s' := by
  obtain ⟨v, H', os, bare, un, hok, r, q⟩ := h
  obtain ⟨hh, g, d, t, os'⟩ := s'
  obtain rfl : os' = s.os := os
  exact ⟨v, H', I.call (h' := hh) (g' := g) (d' := d) (t' := t) (ch := []) un hok bare (fun b z => absurd z (by simp)), r, q⟩
end
/-! ### calls -/
/-- f(..): the written arguments, then the defaults dvs; E: what is wanted of an exception -/
def tCall (sp : Sp) (dvs : List V) (E : XK) (t : TA) : TE := fun σ H Q => t σ H fun vs H1 => sp (vs ++ dvs) H1 Q E
/-- o.m(..) of an instance of the class at C -/
inductive tMethI (C : Addr) (m : Str) (sp : Sp) (dvs : List V) (E : XK) (t : TA) (σ : L2.St) (Q : VK) (x : V) (H1 : Hp) : Prop where
  | mk(a)(dx)(fs)(_ : x = .ref a)(_ : H1 a = some (.ins C dx fs))(_ : fs.lookup m = none)(_ : t σ H1 fun vs H2 => sp (x :: (vs ++ dvs)) H2 Q E)
def tMeth (C : Addr) (m : Str) (sp : Sp) (dvs : List V) (E : XK) (ta : TE) (t : TA) : TE := fun σ H Q => ta σ H fun x H1 => tMethI C m sp dvs E t σ Q x H1
/-- C(..): a new instance and its dict, then __init__ -/
def tMake (C : Addr) (sp : Sp) (dvs : List V) (E : XK) (t : TA) : TE := fun σ H Q => t σ H fun vs H1 => ∀ x dx, H1 x = none → H1 dx = none → dx ≠ x →
  sp (.ref x :: (vs ++ dvs)) (upd (upd H1 dx (.own x)) x (.ins C dx [])) (fun v H2 => v = .non ∧ Q (.ref x) H2) E
/-- how the parameters are bound: us the positional arguments, kw the keywords' values by name, ds the defaults that fill up -/
def Binds (K : PySem.W.Frag) (fd : FuncData) (ps : List Str) (ds : List Value) : Prop :=
  ∀ (s : Shared) (us : List Value), K.In s.heap → (us ++ ds).length = ps.length → BindsTo s fd ⟨us, []⟩ (ps.zip (us ++ ds))
/-- every parameter is given -/
theorem Binds.all {K : PySem.W.Frag} {fd : FuncData} {ps : List Str} (h : ∀ us : List Value, us.length = ps.length → bindArgs fd ⟨us, []⟩ = pure (ps.zip us)) : Binds K fd ps [] := fun s us _ hl => by
  rw [List.append_nil] at hl ⊢
  exact .of_eq (h us hl)
/-- an exception of a callee reaches what this body wants of exceptions -/
def Passes (CX : CXT) (X : Cx) (E : XK) : Prop := ∀ (pins : List (Addr × Obj)) (σ : St) (H : Hp) (s : Shared) (e : Value) (s' : Shared), Inv X pins σ H s → CX X.stack H s E e s' → X.xe e s'
section
variable {X : Cx} {CX : CXT} {k : Nat} {f C : Addr} {fd : FuncData} {ps : List Str} {sp : Sp} {dvs : List V} {ds : List Value} {E : XK} {x m : Str} {p pos apos : Pos} {e o : Expr} {es : List Expr} {ta : TE} {t : TA}
/-- the callee runs -/
theorem run_fn (F : FnOk X.prog X.w X.K X.mg X.base CX k f fd ps sp) (hr : Room k X.A) (hb : Binds X.K fd ps ds) (hd : Vals dvs ds) (hx : Passes CX X E)
    (I : Inv X pins σ H s) (r : Vals vs us) (h : sp (vs ++ dvs) H Q E) : wpAny (model X.prog X.w) X.A (call (.ref f) us) (EP X pins σ Q) X.xe s := by
  have r2 : Vals (vs ++ dvs) (us ++ ds) := r.append hd
  have hl : (us ++ ds).length = ps.length := by rw [← r2.length]; exact F.len _ _ _ _ h
  refine wpAny_call (codeAny_mono (F.run X.A X.stack s H ⟨us, []⟩ (us ++ ds) (vs ++ dvs) Q E hr I.env0 (hb s us I.kIn hl) r2 h) fun r s' hq => ?_)
  cases r with
  | error e => exact hx pins σ H s e s' I hq
  | ok fl =>
    cases fl with
    | ret u => exact I.after hq
    | next => exact False.elim hq
    | brk => exact False.elim hq
    | cont => exact False.elim hq
theorem pe_call (F : FnOk X.prog X.w X.K X.mg X.base CX k f fd ps sp) (hr : Room k X.A) (hg : Gl X x) (hm : X.mg x = some (.ref f)) (hk : PySem.W.keepIn X.K (.ref f) = true) (hb : Binds X.K fd ps ds) (hd : Vals dvs ds) (hx : Passes CX X E)
    (ha : PA X (e :: es) t) (hdb : (x == ("__debug__" : Str)) = false := by decide) (he : starEach (e :: es) X.env = (false, eval e X.env) :: starEach es X.env := by rfl) (hpl : (backTo pos (starEach es X.env)).any (·.1) = false := by rfl) :
    PE X (.Call (.Name x p) (e :: es) [] pos) (tCall sp dvs E t) := by
  intro pins s σ H Q I h
  refine wpAny_Call_Name_kw (ld_glob I hg hm ?_ hdb)
  refine PySem.W.callWith_K (h₀ := X.base) I.ok.mod.kin hk (thn (ha pos pins s σ H _ I h) fun us s1 ⟨vs, H1, I1, r, q⟩ => ⟨I1.kIn, ?_⟩) he hpl
  exact run_fn F hr hb hd hx I1 r q
/-- o.m(e, ..) -/
theorem pe_meth (he : PE X o ta) (c : Cls X.K C) (hm : Meth X.K C m f) (F : FnOk X.prog X.w X.K X.mg X.base CX k f fd ps sp) (hr : Room k X.A) (hb : Binds X.K fd ps ds) (hd : Vals dvs ds) (hx : Passes CX X E) (ha : PA X (e :: es) t)
    (hst : starEach (e :: es) X.env = (false, eval e X.env) :: starEach es X.env := by rfl) (hpl : (backTo pos (starEach es X.env)).any (·.1) = false := by rfl)
    (ht : eval (.Call (.Attribute o m apos) (e :: es) [] pos) X.env = (do
      let ov ← eval o X.env
      standAt apos.atName
      let (f, first) ← holding [ov] (getMethod ov m pl)
      callWith pos f first (backTo pos (starEach (e :: es) X.env)) (backToKw pos (keywordEach [] X.env))) := by rfl) :
    PE X (.Call (.Attribute o m apos) (e :: es) [] pos) (tMeth C m sp dvs E ta t) := by
  intro pins s σ H Q I h
  refine PySem.W.methodCall_KW (pl := pl) (thn (he pins s σ H _ I h) fun u s1 ⟨x, H1, I1, rx, a, dx, fs, ex, ea, l, q⟩ => ?_) ht
  subst ex
  obtain rfl : u = Value.ref a := rx
  refine getmeth_ok I1 ea c hm l ?_
  refine PySem.W.callWith_K (first := [.ref a]) (h₀ := X.base) I.ok.mod.kin hm.kp (thn (ha pos pins s1 σ H1 _ I1 q) fun us s2 ⟨vs, H2, I2, r, q2⟩ => ⟨I2.kIn, ?_⟩) hst hpl
  exact run_fn (us := .ref a :: us) (vs := .ref a :: vs) F hr hb hd hx I2 (.cons rfl r) q2
/-- o.m() -/
theorem pe_meth0 (he : PE X o ta) (c : Cls X.K C) (hm : Meth X.K C m f) (F : FnOk X.prog X.w X.K X.mg X.base CX k f fd ps sp) (hr : Room k X.A) (hb : Binds X.K fd ps ds) (hd : Vals dvs ds) (hx : Passes CX X E)
    (ht : eval (.Call (.Attribute o m apos) [] [] pos) X.env = (do
      let ov ← eval o X.env
      standAt apos.atName
      let (f, first) ← holding [ov] (getMethod ov m pl)
      callWith pos f first (backTo pos (starEach [] X.env)) (backToKw pos (keywordEach [] X.env))) := by rfl) :
    PE X (.Call (.Attribute o m apos) [] [] pos) (tMeth C m sp dvs E ta tNil) := by
  intro pins s σ H Q I h
  refine PySem.W.methodCall_KW (pl := pl) (thn (he pins s σ H _ I h) fun u s1 ⟨x, H1, I1, rx, a, dx, fs, ex, ea, l, q⟩ => ?_) ht
  subst ex
  obtain rfl : u = Value.ref a := rx
  refine getmeth_ok I1 ea c hm l ?_
  exact PySem.W.callWith_K0 (first := [.ref a]) I1.kIn hm.kp (run_fn (us := [.ref a]) (vs := [.ref a]) F hr hb hd hx I1 (.cons rfl .nil) q)
/-- what a class must have to be made -/
structure Mk (K : PySem.W.Frag) (C f : Addr) : Prop where
  makes : PySem.W.makesIn K C = true
  init : PySem.W.findIn K (.ref C) "__init__" = some (some (.ref f))
  fn : PySem.W.isFn K (.ref f) = true
  kp : PySem.W.keepIn K (.ref C) = true
theorem run_make (M : Mk X.K C f) (F : FnOk X.prog X.w X.K X.mg X.base CX k f fd ps sp) (hr : Room (k + 1) X.A) (hb : Binds X.K fd ps ds) (hd : Vals dvs ds)
    (hx : Passes CX X E) (I : Inv X pins σ H s) (r : Vals vs us)
    (h : ∀ x dx, H x = none → H dx = none → dx ≠ x → sp (.ref x :: (vs ++ dvs)) (upd (upd H dx (.own x)) x (.ins C dx [])) (fun v H2 => v = .non ∧ Q (.ref x) H2) E) :
    wpAny (model X.prog X.w) X.A (call (.ref C) us) (EP X pins σ Q) X.xe s := by
  have hq := h (s.heap.objs.size + 1) s.heap.objs.size (I.hok.fresh (Nat.le_succ _)) (I.hok.fresh (Nat.le_refl _)) (Nat.ne_of_lt (Nat.lt_succ_self _))
  have I2 := Inv.made (C := C) I
  have r2 : Vals (V.ref (s.heap.objs.size + 1) :: (vs ++ dvs)) (Value.ref (s.heap.objs.size + 1) :: (us ++ ds)) := .cons rfl (r.append hd)
  have hl : (Value.ref (s.heap.objs.size + 1) :: us ++ ds).length = ps.length := by
    have e := r2.length
    rw [F.len _ _ _ _ hq] at e
    exact e.symm
  refine wpAny_call (make_map (f := f) I.kIn M.makes M.init (beq_iff_eq.mp M.fn) (codeAny_mono (F.run _ X.stack _ _ ⟨Value.ref (s.heap.objs.size + 1) :: us, []⟩ (Value.ref (s.heap.objs.size + 1) :: (us ++ ds)) _ _ E (hr.make C us [])
    (I2.env0.make C us []) (hb _ (Value.ref (s.heap.objs.size + 1) :: us) I2.kIn hl) r2 hq) fun r s' hq' => ?_))
  cases r with
  | error e => exact hx pins σ _ _ e s' I2 hq'
  | ok fl =>
    cases fl with
    | ret u =>
      obtain ⟨v, H', I3, rv, ev, q3⟩ := I2.after hq'
      subst ev
      exact ⟨rv, ⟨V.ref (s.heap.objs.size + 1), H', I3, rfl, q3⟩⟩
    | next => exact False.elim hq'
    | brk => exact False.elim hq'
    | cont => exact False.elim hq'
theorem pe_make0 (M : Mk X.K C f) (F : FnOk X.prog X.w X.K X.mg X.base CX k f fd ps sp) (hr : Room (k + 1) X.A) (hg : Gl X x) (hm : X.mg x = some (.ref C)) (hb : Binds X.K fd ps ds) (hd : Vals dvs ds) (hx : Passes CX X E)
    (hdb : (x == ("__debug__" : Str)) = false := by decide) : PE X (.Call (.Name x p) [] [] pos) (tMake C sp dvs E tNil) := by
  intro pins s σ H Q I h
  refine wpAny_Call_Name_kw (ld_glob I hg hm ?_ hdb)
  exact PySem.W.callWith_K0 I.kIn M.kp (run_make (us := []) M F hr hb hd hx I .nil h)
end
/-! ### keywords -/
section
variable {X : Cx} {CX : CXT} {k : Nat} {f C : Addr} {fd : FuncData} {ps ks : List Str} {sp : Sp} {E : XK} {x m : Str} {p pos apos kpos : Pos} {e o : Expr} {es : List Expr} {kws : List Keyword} {te ta : TE} {t tk : TA} {nm : Option Str}
/-- how a call with keywords binds: g puts the positional values us and the keywords' values ws (names ks) in the parameters' order, defaults among them -/
structure KBinds (K : PySem.W.Frag) (fd : FuncData) (ps ks : List Str) (g : List Value → List Value → List Value) (gV : List V → List V → List V) : Prop where
  to : ∀ (s : Shared) (us ws : List Value), K.In s.heap → (g us ws).length = ps.length → BindsTo s fd ⟨us, ks.zip ws⟩ (ps.zip (g us ws))
  rel : ∀ {vs : List V} {us : List Value} {zs : List V} {ws : List Value}, Vals vs us → Vals zs ws → Vals (gV vs zs) (g us ws)
variable {g : List Value → List Value → List Value} {gV : List V → List V → List V}
end
/-! ### a def's body keeps its promise -/
/-- names: the parameters first -/
structure FnScope (N P : List Str) (sc : Scope) : Prop where
  kind : sc.kind = .function
  co : sc.isCoroutine = false
  gen : sc.isGenerator = false
  nd : N.Nodup
  pre : N.take P.length = P
  par : ∀ x ∈ P, sc.names.lookup x = some .local ∨ sc.names.lookup x = some .cell
  nofree : ∀ y ∈ sc.names, y.2 ≠ .free
theorem bindL_out {kindOf : Str → Option NameKind} {x : Str} : ∀ {binds : List (Str × Value)} {m : Str → Option Value}, (∀ v, (x, v) ∉ binds) → bindL kindOf binds m x = m x
  | [], _, _ => rfl
  | (n, v) :: r, m, h => by
    unfold bindL
    rw [bindL_out fun w hw => h w (List.mem_cons_of_mem _ hw)]
    split
    · have : x ≠ n := by rintro rfl; exact h v List.mem_cons_self
      simp [this]
    · rfl
theorem bindC_out {kindOf : Str → Option NameKind} {x : Str} : ∀ {binds : List (Str × Value)} {m : Str → Option Value}, (∀ v, (x, v) ∉ binds) → bindC kindOf binds m x = m x
  | [], _, _ => rfl
  | (n, v) :: r, m, h => by
    unfold bindC
    rw [bindC_out fun w hw => h w (List.mem_cons_of_mem _ hw)]
    split
    · rfl
    · have : x ≠ n := by rintro rfl; exact h v List.mem_cons_self
      simp [this]
theorem bindL_get {kindOf : Str → Option NameKind} {x : Str} {v : Value} : ∀ {P : List Str} {vs : List Value} {i : Nat} {m : Str → Option Value}, P.Nodup → P[i]? = some x → vs[i]? = some v → kindOf x = some .local →
    bindL kindOf (P.zip vs) m x = some v
  | [], _, _, _, _, h, _, _ => by simp at h
  | _ :: _, [], _, _, _, _, h, _ => by simp at h
  | p :: P, w :: vs, 0, m, nd, h1, h2, hk => by
    simp at h1 h2; subst h1; subst h2
    show bindL kindOf ((p, w) :: P.zip vs) m p = _
    unfold bindL
    rw [bindL_out fun v hv => (List.nodup_cons.mp nd).1 (List.of_mem_zip hv).1, if_pos hk]
    simp
  | p :: P, w :: vs, i + 1, m, nd, h1, h2, hk => by
    show bindL kindOf ((p, w) :: P.zip vs) m x = _
    unfold bindL
    exact bindL_get (i := i) (List.nodup_cons.mp nd).2 (by simpa using h1) (by simpa using h2) hk
theorem bindC_get {kindOf : Str → Option NameKind} {x : Str} {v : Value} : ∀ {P : List Str} {vs : List Value} {i : Nat} {m : Str → Option Value}, P.Nodup → P[i]? = some x → vs[i]? = some v → kindOf x ≠ some .local →
    bindC kindOf (P.zip vs) m x = some v
  | [], _, _, _, _, h, _, _ => by simp at h
  | _ :: _, [], _, _, _, _, h, _ => by simp at h
  | p :: P, w :: vs, 0, m, nd, h1, h2, hk => by
    simp at h1 h2; subst h1; subst h2
    show bindC kindOf ((p, w) :: P.zip vs) m p = _
    unfold bindC
    rw [bindC_out fun v hv => (List.nodup_cons.mp nd).1 (List.of_mem_zip hv).1, if_neg hk]
    simp
  | p :: P, w :: vs, i + 1, m, nd, h1, h2, hk => by
    show bindC kindOf ((p, w) :: P.zip vs) m x = _
    unfold bindC
    exact bindC_get (i := i) (List.nodup_cons.mp nd).2 (by simpa using h1) (by simpa using h2) hk
/-- the names' values at the entry -/
def start (N : List Str) (vs : List V) : St := vs.map some ++ List.replicate (N.length - vs.length) none
/-- the context of a def's body, at its entry; an exception leaves the frame, then lies as CX says -/
def cxOf (CX : CXT) (P : Program) (w : World) (K : PySem.W.Frag) (mg : Str → Option Value) (base : Heap) (N : List Str) (qual : Str) (scope : Scope) (f : Addr) (cd : Value) (A : Around) (outer : List Env) (s : Shared) (H : Hp) (E : XK) : Cx where
  prog := P
  w := w
  K := K
  mg := mg
  base := base
  A := A.deeper (envOfC qual scope s.heap.objs.size f cd)
  N := N
  s₀ := s
  H₀ := H
  env := envOfC qual scope s.heap.objs.size f cd
  outer := outer
  stack := envOfC qual scope s.heap.objs.size f cd :: outer
  ex := []
  calm := true
  fn := fun _ => true
  pn := []
  xe := fun e s' => wpAny (model P w) (A.deeper (envOfC qual scope s.heap.objs.size f cd)) (leaving (envOfC qual scope s.heap.objs.size f cd) e) (fun _ s'' => CX outer H s E e s'') (fun e' s'' => CX outer H s E e' s'') s'
theorem cell_has {sc : Scope} {n : Nat} {x : Str} (h : sc.names.lookup x = some .cell) : ∃ c, (cellsFrom n sc.names []).lookup x = some c := by
  have q := PySem.W.cellsFrom_some sc.names n [] (.inl h)
  exact Option.isSome_iff_exists.mp q
theorem inv_start {CX : CXT} {P : Program} {w : World} {K : PySem.W.Frag} {mg : Str → Option Value} {base : Heap} {N ps : List Str} {qual : Str} {scope : Scope} {f : Addr} {cd : Value} {A : Around} {outer : List Env} {s s1 : Shared} {H : Hp} {E : XK} {us : List Value} {vs : List V}
    (S : FnScope N ps scope) (hd : A.handled = none) (e0 : Env0 P w K mg base A outer s H) (hl : vs.length = ps.length) (r : Vals vs us)
    (x : InCallC s s.heap.objs.size (bindL (envOfC qual scope s.heap.objs.size f cd).kindOf (ps.zip us) fun _ => none) (cellsFrom (s.heap.objs.size + 1) scope.names []) (bindC (envOfC qual scope s.heap.objs.size f cd).kindOf (ps.zip us) fun _ => none) s1) :
    Inv (cxOf CX P w K mg base N qual scope f cd A outer s H E) [] (start N vs) H s1 := by
  have hpl : ps.length ≤ N.length := by have := congrArg List.length S.pre; rw [List.length_take] at this; omega
  obtain ⟨h1, tk, rfl, hk⟩ := x.done
  have noA : ∀ b : Addr, b ∉ (cxOf CX P w K mg base N qual scope f cd A outer s H E).ex := fun b z => absurd (show b ∈ ([] : List Addr) from z) (by simp)
  refine ⟨⟨e0.mod, S.kind, rfl, rfl, Nat.le_refl _, fun y z c h1 h2 => ?_, fun y hy => ?_, fun y c _ h => ?_, fun _ => hd, Around.frames_deeper e0.frames, .inr ⟨rfl, rfl⟩, fun b z => absurd z (noA b), e0.bs, e0.bsz, fun b _ _ => noA b, fun b z => absurd z (noA b), e0.funs, e0.frf⟩,
    rfl, e0.bare, Un.kept hk, ⟨_, x.toInCall.ns, fun i y v h1 h2 h3 => ?_⟩, fun y c h => ⟨_, x.cell y c h⟩, e0.hok.fresh (Nat.le_refl _), fun y c h => ?_, fun p hp => absurd (show p ∈ ([] : List (Addr × Obj)) from hp) (by simp), e0.hok.kept hk, ?_⟩
  · exact name_of_addr x.apart (PySem.mem_of_lookup h1) (PySem.mem_of_lookup h2)
  · have hy : scope.names.lookup y = some .cell ∨ scope.names.lookup y = some .free := hy
    rcases hy with hy | hy
    · exact cell_has hy
    · exact absurd rfl (S.nofree _ (PySem.mem_of_lookup hy))
  · exact Nat.le_of_lt (x.above y c (PySem.mem_of_lookup h))
  · have h2 := h2.resolve_right (lk_nil _)
    have hi : i < vs.length := by
      unfold start at h2
      by_cases hi : i < vs.length
      · exact hi
      · rw [List.getElem?_append_right (by simpa using hi)] at h2
        rw [List.getElem?_replicate] at h2
        split at h2 <;> cases h2
    have ha : vs[i]? = some v := by
      unfold start at h2
      rw [List.getElem?_append_left (by simpa using hi), List.getElem?_map] at h2
      cases e : vs[i]? with
      | none => rw [e] at h2; cases h2
      | some a => rw [e] at h2; cases h2; rfl
    obtain ⟨u, hu, rv⟩ := r.get ha
    have hp : ps[i]? = some y := by
      rw [← S.pre, List.getElem?_take_of_lt (by omega)]; exact h1
    have ndP : ps.Nodup := by rw [← S.pre]; exact S.nd.sublist (List.take_sublist _ _)
    refine ⟨u, rv, ?_⟩
    rcases S.par y (List.mem_of_getElem? hp) with k | k
    · exact .inl ⟨k, bindL_get ndP hp hu k⟩
    · obtain ⟨c, e⟩ := cell_has (n := s.heap.objs.size + 1) k
      refine .inr ⟨.inl k, c, e, ?_⟩
      have q := x.cell y c e
      rw [bindC_get ndP hp hu (by show scope.names.lookup y ≠ _; rw [k]; decide)] at q
      exact q
  · exact e0.hok.fresh (Nat.le_of_lt (x.above y c (PySem.mem_of_lookup h)))
  · unfold start
    show _ = N.length
    rw [List.length_append, List.length_map, List.length_replicate]
    omega
/-- THE RULE: a def (or a method) of the text, by its body. The body's reading t is chosen for each entry; it is run at the parameters' values -/
theorem fn_of {CX : CXT} {P : Program} {w : World} {K : PySem.W.Frag} {mg : Str → Option Value} {base : Heap} {k : Nat} {f : Addr} {name qual : Str} {params : Arguments} {body : List Stmt} {scope : Scope} {dV kV doc pm cdv ct oc : Value} {an od : Option Addr}
    {osl : Array (Option Value)} {N ps : List Str} {sp : Sp} (lk : K.lookup f = some ⟨oc, od, .func (PySem.W.fnOf name qual params body scope dV kV doc pm an cdv ct), osl⟩) (hcd : PySem.W.codeIn K cdv qual = true) (S : FnScope N ps scope)
    (len : ∀ vs H Q E, sp vs H Q E → vs.length = ps.length)
    (hbody : ∀ (A : Around) (outer : List Env) (s : Shared) (H : Hp) (vs : List V) (Q : VK) (E : XK), Room k (A.deeper (envOfC qual scope s.heap.objs.size f cdv)) → sp vs H Q E →
      ∃ t, PSs (cxOf CX P w K mg base N qual scope f cdv A outer s H E) body t ∧ t { nx := fun _ H' => Q .non H', rt := Q } (start N vs) H) :
    FnOk P w K mg base CX (k + 1) f (PySem.W.fnOf name qual params body scope dV kV doc pm an cdv ct) ps sp := by
  refine ⟨len, fun A outer s H args us vs Q E hr e0 hb r hsp => ?_⟩
  have hl := len _ _ _ _ hsp
  have KX : K.In s.heap := e0.mod.kin.keeps fun b o e => (e0.bs b o e).1
  have lim : s.heap.NoLimit := e0.mod.nolimit.keeps fun b o e => (e0.bs b o e).1
  have hkind : ∀ y ∈ ps.zip us, scope.names.lookup y.1 = some .local ∨ (scope.names.lookup y.1 = some .cell ∧ ((cellsFrom (s.heap.objs.size + 1) scope.names []).lookup y.1).isSome = true) := fun ⟨n, v⟩ hy => by
    rcases S.par n (List.of_mem_zip hy).1 with q | q
    · exact .inl q
    · exact .inr ⟨q, PySem.W.cellsFrom_some _ _ _ (.inl q)⟩
  refine codeAny_call_function hr.depth (KX _ _ lk) rfl S.co S.gen rfl (PySem.W.codeRec_of KX hcd) (hb _ _ _ _ ?_)
  refine wpAny_newFunctionEnv_cells S.kind hkind fun env he s1 x => ?_
  subst he
  refine ⟨lim.keeps x.toInCall.keep, codeAny_func ?_⟩
  obtain ⟨t, ht, hq⟩ := hbody A outer s H vs Q E (hr.deeper _) hsp
  have I : Inv (cxOf CX P w K mg base N qual scope f cdv A outer s H E) [] (start N vs) H s1 := inv_start S hr.hd e0 hl r x
  refine wpAny_mono (ht [] s1 (start N vs) H _ I hq) (fun fl s' hs => ?_) fun e s' hs => hs
  have fin : ∀ {σ' : St} {H' : Hp} {v : V} {u : Value}, Inv (cxOf CX P w K mg base N qual scope f cdv A outer s H E) [] σ' H' s' → RelV v u → Q v H' → CE outer P w H s Q u s' :=
    fun {σ' H' v u} J rv q => ⟨v, H', J.os, J.bare, J.base, J.hok, rv, q⟩
  cases fl with
  | ret u =>
    obtain ⟨v, σ', H', J, rv, q⟩ := hs
    exact fin J rv q
  | next =>
    obtain ⟨σ', H', J, q⟩ := hs
    exact fin (v := V.non) (u := Value.none) J rfl q
  | brk =>
    obtain ⟨_, _, _, q⟩ := hs
    exact False.elim q
  | cont =>
    obtain ⟨_, _, _, q⟩ := hs
    exact False.elim q
end L2
namespace L2
open PySem PySem.Spec PyProof.Rows
section
variable {X : Cx} {x : Str} {p pos : Pos} {e : Expr} {es : List Expr} {t : TA} {id T : String} {r : List V → Hp → VK → Prop}
def tCB (r : List V → Hp → VK → Prop) (t : TA) : TE := fun σ H Q => t σ H fun vs H1 => r vs H1 Q
/-- f(e, ..), f a built-in function -/
theorem pe_callB (hc : CallR X (.builtin id) r) (hg : Gl X x) (hm : X.mg x = none) (hv : bootBuiltins x = some (.builtin id)) (ha : PA X (e :: es) t) (hn : x ≠ "__name__" := by decide) (hdb : (x == ("__debug__" : Str)) = false := by decide)
    (he : starEach (e :: es) X.env = (false, eval e X.env) :: starEach es X.env := by rfl) (hpl : (backTo pos (starEach es X.env)).any (·.1) = false := by rfl) : PE X (.Call (.Name x p) (e :: es) [] pos) (tCB r t) := by
  intro pins s σ H Q I h
  refine wpAny_Call_Name_kw (ld_blt I hg hm hv ?_ hn hdb)
  exact PyProof.Rows.callWith_builtin1 (thn (ha pos pins s σ H _ I h) fun us s1 ⟨vs, H1, I1, r1, q1⟩ => hc pins s1 σ H1 vs us Q I1 r1 q1) he hpl
/-- T(e, ..), T a built-in type -/
theorem pe_callTy (hc : CallR X (.type T) r) (hg : Gl X x) (hm : X.mg x = none) (hv : bootBuiltins x = some (.type T)) (ha : PA X (e :: es) t) (hn : x ≠ "__name__" := by decide) (hdb : (x == ("__debug__" : Str)) = false := by decide)
    (he : starEach (e :: es) X.env = (false, eval e X.env) :: starEach es X.env := by rfl) (hpl : (backTo pos (starEach es X.env)).any (·.1) = false := by rfl) : PE X (.Call (.Name x p) (e :: es) [] pos) (tCB r t) := by
  intro pins s σ H Q I h
  refine wpAny_Call_Name_kw (ld_blt I hg hm hv ?_ hn hdb)
  exact PyProof.Rows.callWith_type1 (thn (ha pos pins s σ H _ I h) fun us s1 ⟨vs, H1, I1, r1, q1⟩ => hc pins s1 σ H1 vs us Q I1 r1 q1) he hpl
end
end L2
namespace L2
open PySem PySem.Spec PyProof.Rows
/-! ### lists of pairs as tables -/
section
variable {κ : Type} [DecidableEq κ]
def valV (kvs : List (κ × V)) (k : κ) : Option V := (kvs.find? fun kv => decide (kv.1 = k)).map (·.2)
/-- in its place, or at the end -/
def putK (kvs : List (κ × V)) (k : κ) (v : V) : List (κ × V) :=
  if (kvs.any fun kv => decide (kv.1 = k)) = true then kvs.map (fun kv => if kv.1 = k then (kv.1, v) else kv) else kvs ++ [(k, v)]
theorem valV_nil : valV ([] : List (κ × V)) k = none := rfl
theorem valV_pos {p : κ × V} {r : List (κ × V)} {k : κ} (e : p.1 = k) : valV (p :: r) k = some p.2 := by simp [valV, List.find?_cons, e]
theorem valV_neg {p : κ × V} {r : List (κ × V)} {k : κ} (e : ¬ p.1 = k) : valV (p :: r) k = valV r k := by simp [valV, List.find?_cons, e]
theorem valV_any (k : κ) : ∀ kvs : List (κ × V), (kvs.any fun kv => decide (kv.1 = k)) = (valV kvs k).isSome
  | [] => rfl
  | p :: r => by
    rw [List.any_cons]
    by_cases e : p.1 = k
    · simp only [valV_pos e, decide_eq_true e, Bool.true_or, Option.isSome_some]
    · rw [valV_neg e, decide_eq_false e, Bool.false_or]; exact valV_any k r
theorem length_putK (kvs : List (κ × V)) (k : κ) (v : V) : (putK kvs k v).length ≤ kvs.length + 1 := by
  unfold putK
  split
  · rw [List.length_map]; omega
  · rw [List.length_append, List.length_cons, List.length_nil]; omega
theorem putK_new {kvs : List (κ × V)} {k : κ} (v : V) (h : valV kvs k = none) : putK kvs k v = kvs ++ [(k, v)] := by
  unfold putK
  rw [valV_any, h]
  exact if_neg (by decide)
theorem RelO.isSome_eq (r : RelO o u) : o.isSome = u.isSome := by
  cases o with
  | none => cases u with
    | none => rfl
    | some _ => exact (show False from r).elim
  | some _ => cases u with
    | none => exact (show False from r).elim
    | some _ => rfl
/-- raw tables of the same keys -/
theorem KV.val {kvs : List (κ × V)} {vs : List (κ × Value)} (r : KV kvs vs) (k : κ) : RelO (valV kvs k) (valueAt vs k) := by
  unfold KV at r
  induction r with
  | nil => exact True.intro
  | @cons p q ps qs h t ih =>
    obtain ⟨h1, h2⟩ := h
    by_cases e : p.1 = k
    · have e' : q.1 = k := h1.symm.trans e
      have b : valueAt (q :: qs) k = some q.2 := by simp [valueAt, List.find?_cons, e']
      rw [valV_pos e, b]; exact h2
    · have e' : ¬ q.1 = k := fun z => e (h1.trans z)
      have b : valueAt (q :: qs) k = valueAt qs k := by simp [valueAt, List.find?_cons, e']
      rw [valV_neg e, b]; exact ih
theorem KV.any (r : KV kvs vs) (k : κ) : (kvs.any fun kv => decide (kv.1 = k)) = vs.any fun kv => decide (kv.1 = k) := by
  unfold KV at r
  induction r with
  | nil => rfl
  | cons h t ih => rw [List.any_cons, List.any_cons, ih, h.1]
theorem KV.repl (r : KV kvs vs) (k : κ) (ry : RelV y u) :
    KV (kvs.map fun kv => if kv.1 = k then (kv.1, y) else kv) (vs.map fun kv => if kv.1 = k then (kv.1, u) else kv) := by
  unfold KV at r ⊢
  induction r with
  | nil => exact .nil
  | @cons p q ps qs h t ih =>
    rw [List.map_cons, List.map_cons]
    refine .cons ?_ ih
    obtain ⟨h1, h2⟩ := h
    by_cases e : p.1 = k
    · rw [if_pos e, if_pos (h1.symm.trans e)]; exact ⟨h1, ry⟩
    · rw [if_neg e, if_neg (fun z => e (h1.trans z))]; exact ⟨h1, h2⟩
theorem KV.put (r : KV kvs vs) (k : κ) (ry : RelV y u) : KV (putK kvs k y) (stored vs k u) := by
  unfold putK stored
  rw [r.any k]
  by_cases e : (vs.any fun kv => decide (kv.1 = k)) = true
  · rw [if_pos e, if_pos e]; exact r.repl k ry
  · rw [if_neg e, if_neg e]; exact Paired.snoc r ⟨rfl, ry⟩
theorem KV.keys {kvs : List (κ × V)} {vs : List (κ × Value)} (r : KV kvs vs) : kvs.map (·.1) = vs.map (·.1) := by
  unfold KV at r
  induction r with
  | nil => rfl
  | cons h t ih => rw [List.map_cons, List.map_cons, ih, h.1]
theorem KV.length (r : KV kvs vs) : kvs.length = vs.length := Paired.length r
end
/-! ### a tracked dict, its keys ints and texts or tuples of these -/
theorem kV_is (r : RelV (kV k) u) : (mixKind P w).is k u = true := by
  cases k with
  | inl i => obtain ⟨t, e⟩ := (show ∃ t, u = Value.int i t from r); subst e; exact mixKind_int P w i t
  | inr x => obtain ⟨t, e⟩ := (show ∃ t, u = Value.str x t from r); subst e; exact mixKind_str P w x t
theorem items_are : ∀ {ks : List Key} {us : List Value}, Vals (ks.map kV) us → ItemsAre (mixKind P w) ks us
  | [], _, r => by rw [List.map_nil] at r; cases r; exact .nil
  | k :: ks, _, r => by
    rw [List.map_cons] at r
    cases r with
    | cons h t => exact .cons (kV_is h) (items_are t)
/-- raw entries of a dict with tuple keys -/
abbrev KT (H : Hp) : List (List Key × V) → List (List Key × Addr × Value) → Prop := Paired fun p q => p.1 = q.1 ∧ H q.2.1 = some (.tup (p.1.map kV)) ∧ RelV p.2 q.2.2
theorem KT.val {H : Hp} {kvs : List (List Key × V)} {xs : List (List Key × Addr × Value)} (r : KT H kvs xs) (k : List Key) : RelO (valV kvs k) ((atKey xs k).map (·.2)) := by
  induction r with
  | nil => exact True.intro
  | @cons p q ps qs h t ih =>
    obtain ⟨h1, _, h2⟩ := h
    by_cases e : p.1 = k
    · have e' : q.1 = k := h1.symm.trans e
      have b : atKey (q :: qs) k = some q.2 := by simp [atKey, List.find?_cons, e']
      rw [valV_pos e, b]; exact h2
    · have e' : ¬ q.1 = k := fun z => e (h1.trans z)
      have b : atKey (q :: qs) k = atKey qs k := by simp [atKey, List.find?_cons, e']
      rw [valV_neg e, b]; exact ih
theorem KT.repl (r : KT H kvs xs) (k : List Key) (ry : RelV y u) :
    KT H (kvs.map fun kv => if kv.1 = k then (kv.1, y) else kv) (xs.map (putAt k u)) := by
  induction r with
  | nil => exact .nil
  | @cons p q ps qs h t ih =>
    rw [List.map_cons, List.map_cons]
    refine .cons ?_ ih
    obtain ⟨h1, h2, h3⟩ := h
    unfold putAt
    by_cases e : p.1 = k
    · rw [if_pos e, if_pos (h1.symm.trans e)]; exact ⟨h1, h2, ry⟩
    · rw [if_neg e, if_neg (fun z => e (h1.trans z))]; exact ⟨h1, h2, h3⟩
theorem KT.put (r : KT H kvs xs) (k : List Key) (hb : H b = some (.tup (k.map kV))) (ry : RelV y u) :
    KT H (putK kvs k y) (storedH xs k b u) := by
  have e : (kvs.any fun kv => decide (kv.1 = k)) = (atKey xs k).isSome := by
    rw [valV_any, (r.val k).isSome_eq, Option.isSome_map]
  unfold putK storedH
  rw [e]
  by_cases q : (atKey xs k).isSome = true
  · rw [if_pos q, if_pos q]; exact r.repl k ry
  · rw [if_neg q, if_neg q]; exact Paired.snoc r ⟨rfl, hb, ry⟩
theorem KT.keeps (r : KT H kvs xs) (ht : ∀ b ys, H b = some (.tup ys) → H' b = some (.tup ys)) : KT H' kvs xs :=
  Paired.mapP r fun _ _ z => ⟨z.1, ht _ _ z.2.1, z.2.2⟩
section
variable {P : Program} {w : World} {H : Hp} {h : Heap} {a : Addr}
theorem rd_of (ok : HOk P w H h) (e : Rd H a u) : ObjOk P w H h a u := e.ok ok
theorem dk_rd (ok : HOk P w H h) (e : Rd H a (.dK kvs)) : kvs.length ≤ sizeLine ∧ (a == sysModules) = false ∧ ∃ vs, KV kvs vs ∧ h.DictOf (mixKind P w) a vs :=
  show ObjOk P w H h a (.dK kvs) from rd_of ok e
theorem dk_of (ok : HOk P w H h) (e : H a = some (.dK kvs)) : kvs.length ≤ sizeLine ∧ (a == sysModules) = false ∧ ∃ vs, KV kvs vs ∧ h.DictOf (mixKind P w) a vs := dk_rd ok (.inl e)
/-- a tracked tuple of ints and texts is a key -/
theorem key_of (ok : HOk P w H h) (e : H a = some (.tup (ks.map kV))) : (tupleKind (mixKind P w)).is h ks a := by
  obtain ⟨_, its, r, o, h1, h2, n, h3⟩ := (show ObjOk P w H h a (.tup (ks.map kV)) from ok a _ e)
  exact ⟨o, its.toArray, n, h1, h2, h3, by simpa using items_are r⟩
theorem dt_rd (ok : HOk P w H h) (e : Rd H a (.dT kvs)) : kvs.length ≤ sizeLine ∧ (a == sysModules) = false ∧
    ∃ xs, KT H kvs xs ∧ h.DictOfH (tupleKind (mixKind P w)) a xs := by
  obtain ⟨z, y, xs, r, o, es, ep, h1, h2, h3, h4, h5⟩ := (show ObjOk P w H h a (.dT kvs) from rd_of ok e)
  refine ⟨z, y, xs, r, o, es, ep, h1, h2, h3, h4, fun x hx => ?_, h5⟩
  have all : ∀ {l : List (List Key × V)} {m : List (List Key × Addr × Value)}, KT H l m → ∀ x ∈ m, (tupleKind (mixKind P w)).is h x.1 x.2.1 := by
    intro l m q
    induction q with
    | nil => intro x hx; exact nomatch hx
    | @cons p q ps qs hq t ih =>
      intro x hx
      rcases List.mem_cons.mp hx with e | hx
      · subst e
        exact key_of ok (by rw [← hq.1]; exact hq.2.1)
      · exact ih x hx
  exact all r x hx
theorem dt_of (ok : HOk P w H h) (e : H a = some (.dT kvs)) : kvs.length ≤ sizeLine ∧ (a == sysModules) = false ∧
    ∃ xs, KT H kvs xs ∧ h.DictOfH (tupleKind (mixKind P w)) a xs := dt_rd ok (.inl e)
end
/-- what the dict at a holds at the key y -/
def DGet (H : Hp) (a : Addr) (y : V) (r : Option V) : Prop :=
  (∃ kvs k, Rd H a (.dK kvs) ∧ y = kV k ∧ r = valV kvs k) ∨ ∃ kvs k b, Rd H a (.dT kvs) ∧ y = .ref b ∧ H b = some (.tup (k.map kV)) ∧ r = valV kvs k
/-- the heap behind a[y] = v -/
def DPut (H : Hp) (a : Addr) (y v : V) (H' : Hp) : Prop :=
  (∃ kvs k, H a = some (.dK kvs) ∧ y = kV k ∧ kvs.length < sizeLine ∧ H' = upd H a (.dK (putK kvs k v))) ∨
  ∃ kvs k b, H a = some (.dT kvs) ∧ y = .ref b ∧ H b = some (.tup (k.map kV)) ∧ kvs.length < sizeLine ∧ H' = upd H a (.dT (putK kvs k v))
theorem DGet.k {H : Hp} {a : Addr} {kvs : List (Key × V)} {k : Key} (e : H a = some (.dK kvs)) : DGet H a (kV k) (valV kvs k) := .inl ⟨kvs, k, .inl e, rfl, rfl⟩
theorem DPut.k {H : Hp} {a : Addr} {kvs : List (Key × V)} {k : Key} {v : V} (e : H a = some (.dK kvs)) (hl : kvs.length < sizeLine) : DPut H a (kV k) v (upd H a (.dK (putK kvs k v))) := .inl ⟨kvs, k, e, rfl, hl, rfl⟩
section
variable {X : Cx} {pins : List (Addr × Obj)} {σ : St} {H : Hp} {s : Shared} {a : Addr} {y v : V} {u r : Value} {o : Option V} {A : Around} {E : Value → Shared → Prop}
theorem Inv.big (I : Inv X pins σ H s) : sysModules < s.heap.objs.size := by
  have h : mainGlobals < s.heap.objs.size := (I.mod.glob.keeps I.bk).lt
  exact Nat.lt_trans (by decide) h
/-- d[y], there -/
theorem d_getItem (hu : A.units + 1 < cLine) (I : Inv X pins σ H s) (g : DGet H a y (some v)) (ry : RelV y u) (h : ∀ w' s', Inv X pins σ H s' → RelV v w' → Q w' s') :
    wpAny (model X.prog X.w) A (getItem (.ref a) u) Q E s := by
  rcases g with ⟨kvs, k, e, ey, l⟩ | ⟨kvs, k, b, e, ey, eb, l⟩
  · subst ey
    obtain ⟨z, hd, vs, rel, dd⟩ := dk_rd I.hok e
    obtain ⟨w', hw, rw'⟩ := RelO.some_of (v := v) (o := valueAt vs k) (by rw [l]; exact rel.val k)
    exact wpAny_getItem_of (kV_is ry) dd.mapOf hw (h w' _ (I.tok _) rw')
  · subst ey
    cases (show u = Value.ref b from ry)
    obtain ⟨z, hd, xs, rel, dd⟩ := dt_rd I.hok e
    obtain ⟨w', hw, rw'⟩ := RelO.some_of (v := v) (o := (atKey xs k).map (·.2)) (by rw [l]; exact rel.val k)
    obtain ⟨p, hp, hp2⟩ := Option.map_eq_some_iff.mp hw
    refine wpAny_getItem_heap (tupleKind_room_in1 hu) (key_of I.hok eb) dd hp ?_
    rw [hp2]
    exact h w' _ (I.tok _) rw'
/-- y in d -/
theorem d_in (hu : A.units + 1 < cLine) (I : Inv X pins σ H s) (g : DGet H a y o) (ry : RelV y u) (h : ∀ s', Inv X pins σ H s' → Q (.bool o.isSome) s') :
    wpAny (model X.prog X.w) A (compareOp .In u (.ref a)) Q E s := by
  rcases g with ⟨kvs, k, e, ey, l⟩ | ⟨kvs, k, b, e, ey, eb, l⟩
  · subst ey
    obtain ⟨z, hd, vs, rel, dd⟩ := dk_rd I.hok e
    refine wpAny_in_of (kV_is ry) hd dd.mapOf ?_
    rw [← (rel.val k).isSome_eq, ← l]
    exact h _ (I.tok _)
  · subst ey
    cases (show u = Value.ref b from ry)
    obtain ⟨z, hd, xs, rel, dd⟩ := dt_rd I.hok e
    refine wpAny_in_heap (tupleKind_room_in1 hu) (key_of I.hok eb) hd dd ?_
    have q := (rel.val k).isSome_eq
    rw [Option.isSome_map] at q
    rw [← q, ← l]
    exact h _ (I.tok _)
theorem d_notIn (hu : A.units + 1 < cLine) (I : Inv X pins σ H s) (g : DGet H a y o) (ry : RelV y u) (h : ∀ s', Inv X pins σ H s' → Q (.bool (!o.isSome)) s') :
    wpAny (model X.prog X.w) A (compareOp .NotIn u (.ref a)) Q E s := by
  rcases g with ⟨kvs, k, e, ey, l⟩ | ⟨kvs, k, b, e, ey, eb, l⟩
  · subst ey
    obtain ⟨z, hd, vs, rel, dd⟩ := dk_rd I.hok e
    refine wpAny_notIn_of (kV_is ry) hd dd.mapOf ?_
    rw [← (rel.val k).isSome_eq, ← l]
    exact h _ (I.tok _)
  · subst ey
    cases (show u = Value.ref b from ry)
    obtain ⟨z, hd, xs, rel, dd⟩ := dt_rd I.hok e
    refine wpAny_notIn_heap (tupleKind_room_in1 hu) (key_of I.hok eb) hd dd ?_
    have q := (rel.val k).isSome_eq
    rw [Option.isSome_map] at q
    rw [← q, ← l]
    exact h _ (I.tok _)
/-- a dict's object is replaced -/
theorem d_write (I : Inv X pins σ H s) (mu : Mut (H a)) (hs : Heap.SameBut a s.heap h') (he : ∃ q, h'.get? a = some q) (new : ObjOk X.prog X.w (upd H a ob) h' a ob) :
    Inv X pins σ (upd H a ob) { s with heap := h', toks := t' } :=
  I.write (x := a) (e := a) mu (.inl rfl) (fun b q hb z => (hs.2 b hb).trans z) he new
theorem dk_new (z : kvs.length ≤ sizeLine) (hd : (a == sysModules) = false) (rel : KV kvs vs) (dd : h'.DictOf (mixKind P w) a vs) :
    ObjOk P w H' h' a (.dK kvs) := ⟨z, hd, vs, rel, dd⟩
/-- d[y] = v -/
theorem d_setItem (hu : A.units + 1 < cLine) (I : Inv X pins σ H s) (g : DPut H a y v H') (ry : RelV y u) (rv : RelV v r) (h : ∀ s', Inv X pins σ H' s' → Q () s') :
    wpAny (model X.prog X.w) A (setItem (.ref a) u r) Q E s := by
  rcases g with ⟨kvs, k, e, ey, l, eH⟩ | ⟨kvs, k, b, e, ey, eb, l, eH⟩
  · subst ey eH
    obtain ⟨z, hd, vs, rel, dd⟩ := dk_of I.hok e
    have hz : vs.length ≤ sizeLine := by rw [← rel.length]; exact z
    have hl : (putK kvs k v).length ≤ sizeLine := by have := length_putK kvs k v; omega
    refine wpAny_setItem_pairs (hsz := hz) (kV_is ry) dd fun h' dd' hs => h _ ?_
    have he : ∃ q, h'.get? a = some q := let ⟨q, _, _, hq, _⟩ := dd'; ⟨q, hq⟩
    exact d_write I (by rw [e]; exact True.intro) hs he (dk_new hl hd (rel.put k rv) dd')
  · subst ey eH
    cases (show u = Value.ref b from ry)
    obtain ⟨z, hd, xs, rel, dd⟩ := dt_of I.hok e
    have hz : xs.length ≤ sizeLine := by rw [← Paired.length rel]; exact z
    have hl : (putK kvs k v).length ≤ sizeLine := by have := length_putK kvs k v; omega
    refine wpAny_setItem_heap (hsz := hz) (tupleKind_room_in1 hu) (key_of I.hok eb) dd fun h' dd' hs => h _ ?_
    obtain ⟨q, es, ep, hq, h2, h3, h4, _, h5⟩ := dd'
    refine d_write I (by rw [e]; exact True.intro) hs ⟨q, hq⟩ ⟨hl, hd, _, (rel.put k eb rv).keeps fun c ys ec => ?_, q, es, ep, hq, h2, h3, h4, h5⟩
    rw [upd_ne (ne_of ec e (fun z => nomatch z))]
    exact ec
end
section
variable {X : Cx} {pins : List (Addr × Obj)} {σ : St} {H : Hp} {s : Shared} {a : Addr} {kvs : List (Key × V)} {k : Key} {u : Value} {A : Around} {E : Value → Shared → Prop}
/-- len(d) -/
theorem d_len (I : Inv X pins σ H s) (e : Rd H a (.dK kvs)) (h : ∀ t s', Inv X pins σ H s' → Q (.int kvs.length t) s') : wpAny (model X.prog X.w) A (call (.builtin "len") [.ref a]) Q E s := by
  obtain ⟨z, hd, vs, rel, dd⟩ := dk_rd I.hok e
  refine call_len_dict hd dd (by rw [← rel.length]; rw [sizeLine_eq] at z; omega) ?_
  rw [← rel.length]
  exact h _ _ (I.tok _)
end
/-! ### readings and rules -/
/-- the element of a subscription, not a slice -/
def NoSl (i : Expr) : Prop := ∀ ov iv, subscripted i false ov iv = operate [ov, iv] (getItem ov iv)
theorem subD_of {prog : Program} {w : World} {A : Around} {E : Value → Shared → Prop} {s : Shared} {env : Env} {value slice : Expr} {pos : Pos} {T id : String} {Q : Value → Shared → Prop}
    (hl : typeLookup (.type T) "__getitem__" = pure (some (.builtin id))) (hs : NoSl slice)
    (h : wpAny (model prog w) A (eval value env) (fun o s₁ => wpAny (model prog w) A (eval slice env) (fun i s₂ => s₂.TypeIs o T ∧ wpAny (model prog w) A (getItem o i) Q E s₂) E s₁) E s) :
    wpAny (model prog w) A (eval (.Subscript value slice pos) env) Q E s := by
  refine Subscript_ (wpAny_mono h (fun o s₁ h₁ => wpAny_mono h₁ (fun i s₂ h₂ => ?_) fun _ _ x => x) fun _ _ x => x)
  obtain ⟨hT, h₂⟩ := h₂
  unfold subscriptTail
  refine wpAny_bind ?_
  rw [getitemInPython_of_ne hT.not_modules]
  refine wpAny_bind (wpAny_specialOf hT hl ?_)
  have fin : wpAny (model prog w) A (subscripted slice false o i) (fun r s₃ => wpAny (model prog w) A (letTemporaryGo value o r >>= fun _ => pure r) Q E s₃) E s₂ := by
    rw [hs o i]
    exact wpAny_operating (wpAny_mono h₂ (fun r s₃ h₃ => wpAny_bind (wpAny_letTemporaryGo (wpAny_pure h₃))) fun _ _ x => x)
  first
    | exact wpAny_pure (wpAny_bind fin)
    | exact wpAny_bind (wpAny_pure (wpAny_bind fin))
    | exact wpAny_bind fin
theorem dict_typeIs (I : Inv X pins σ H s) (g : DGet H a y o) : s.TypeIs (.ref a) "dict" := by
  rcases g with ⟨kvs, k, e, _, _⟩ | ⟨kvs, k, b, e, _, _, _⟩
  · obtain ⟨_, _, vs, _, dd⟩ := dk_rd I.hok e
    exact dd.typeIs
  · obtain ⟨_, _, xs, _, dd⟩ := dt_rd I.hok e
    exact dd.typeIs
/-- d[y] -/
inductive tDGetI (Q : VK) (x : V) (y : V) (H2 : Hp) : Prop where
  | mk(a)(v)(_ : x = .ref a)(_ : DGet H2 a y (some v))(_ : Q v H2)
def tDGet (td ty : TE) : TE := fun σ H Q => td σ H fun x H1 => ty σ H1 fun y H2 => tDGetI Q x y H2
/-- y in d, y not in d -/
inductive tDInI (Q : VK) (y : V) (x : V) (H2 : Hp) : Prop where
  | mk(a)(o)(_ : x = .ref a)(_ : DGet H2 a y o)(_ : Q (.bl o.isSome) H2)
def tDIn (ty td : TE) : TE := fun σ H Q => ty σ H fun y H1 => td σ H1 fun x H2 => tDInI Q y x H2
inductive tDNotInI (Q : VK) (y : V) (x : V) (H2 : Hp) : Prop where
  | mk(a)(o)(_ : x = .ref a)(_ : DGet H2 a y o)(_ : Q (.bl (!o.isSome)) H2)
def tDNotIn (ty td : TE) : TE := fun σ H Q => ty σ H fun y H1 => td σ H1 fun x H2 => tDNotInI Q y x H2
/-- d[y] = v -/
inductive sDPutI (D : Ends) (σ : L2.St) (v : V) (x : V) (y : V) (H3 : Hp) : Prop where
  | mk(a)(H4)(_ : x = .ref a)(_ : DPut H3 a y v H4)(_ : D.nx σ H4)
def sDPut (td ty tv : TE) : TS := fun D σ H => tv σ H fun v H1 => td σ H1 fun x H2 => ty σ H2 fun y H3 => sDPutI D σ v x y H3
section
variable {X : Cx} {o i e value : Expr} {pos pos' tpos : Pos} {td ty tv : TE}
theorem pe_dget (hu : X.A.units + 1 < cLine) (ho : PE X o td) (hi : PE X i ty) (hs : NoSl i) : PE X (.Subscript o i pos) (tDGet td ty) := by
  intro pins s σ H Q I h
  refine subD_of PySem.F.slot_dict_getitem.lookup hs (thn (ho pins s σ H _ I h) fun u s1 ⟨x, H1, I1, rx, q1⟩ => thn (hi pins s1 σ H1 _ I1 q1) fun iv s2 ⟨y, H2, I2, ry, a, v, ex, g, q2⟩ => ?_)
  subst ex
  obtain rfl : u = Value.ref a := rx
  exact ⟨dict_typeIs I2 g, d_getItem hu I2 g ry fun w' s3 I3 rw' => ⟨v, H2, I3, rw', q2⟩⟩
theorem pc_din (hu : X.A.units + 1 < cLine) (hi : PE X i ty) (ho : PE X o td) : PC X .In i o (tDIn ty td) := by
  intro pins s σ H Q I h
  refine thn (hi pins s σ H _ I h) fun iv s1 ⟨y, H1, I1, ry, q1⟩ => thn (ho pins s1 σ H1 _ I1 q1) fun u s2 ⟨x, H2, I2, rx, a, ov, ex, g, q2⟩ => ?_
  subst ex
  obtain rfl : u = Value.ref a := rx
  exact d_in hu I2 g ry fun s3 I3 => ⟨.bl ov.isSome, H2, I3, rfl, q2⟩
theorem pc_dnotin (hu : X.A.units + 1 < cLine) (hi : PE X i ty) (ho : PE X o td) : PC X .NotIn i o (tDNotIn ty td) := by
  intro pins s σ H Q I h
  refine thn (hi pins s σ H _ I h) fun iv s1 ⟨y, H1, I1, ry, q1⟩ => thn (ho pins s1 σ H1 _ I1 q1) fun u s2 ⟨x, H2, I2, rx, a, ov, ex, g, q2⟩ => ?_
  subst ex
  obtain rfl : u = Value.ref a := rx
  exact d_notIn hu I2 g ry fun s3 I3 => ⟨.bl (!ov.isSome), H2, I3, rfl, q2⟩
theorem ps_dput (hu : X.A.units + 1 < cLine) (ho : PE X o td) (hi : PE X i ty) (hv : PE X value tv) (hs : swapsWith value (some (.Subscript o i pos')) pos.line X.env = pure false) :
    PS X (.Assign [.Subscript o i pos'] value pos) (sDPut td ty tv) := by
  intro pins s σ H D I h
  refine wpAny_Assign_Subscript (thn (hv pins s σ H _ I h) fun r s1 ⟨v, H1, I1, rv, q1⟩ => thn (ho pins s1 σ H1 _ I1 q1) fun u s2 ⟨x, H2, I2, rx, q2⟩ => thn (hi pins s2 σ H2 _ I2 q2) fun iv s3 ⟨y, H3, I3, ry, a, H4, ex, g, q3⟩ => ?_) hs
  subst ex
  obtain rfl : u = Value.ref a := rx
  exact d_setItem hu I3 g ry rv fun s4 I4 => ⟨σ, H4, I4, q3⟩
end
/-! ### displays -/
theorem dk_empty (h : Heap) (hb : sysModules < h.objs.size) : ObjOk P w H (h.push { cls := .type "dict", data := .dict #[] }) h.objs.size (.dK []) :=
  ⟨Nat.zero_le _, beq_eq_false_iff_ne.mpr (Ne.symm (Nat.ne_of_lt hb)), [], .nil, Heap.DictOf.new h⟩
/-- {}, to be a dict of the kind that is wanted -/
def tDNewK : TE := fun _ H Q => ∀ p, H p = none → Q (.ref p) (upd H p (.dK []))
section
variable {X : Cx} {pos : Pos}
theorem pe_dnewK : PE X (.Dict [] [] pos) tDNewK := fun pins s σ H Q I h =>
  wpAny_Dict_empty ⟨.ref s.heap.objs.size, _, I.laid (a := s.heap.objs.size) (o := .dK []) (t' := s.toks) (fun _ _ q => Heap.get?_push_of_some _ q) (Nat.le_refl _) (dk_empty s.heap I.big), rfl, h _ (I.hok.fresh (Nat.le_refl _))⟩
end
/-! ### methods -/
/-- a method call o.m(e) of a built-in, with one argument: what must be seen of the text -/
structure M1 (X : Cx) (o : Expr) (m : Str) (apos : Pos) (e : Expr) (cpos : Pos) : Prop where
  base : attributeBase o m X.env (eval o X.env) = eval o X.env
  few : ((backTo cpos (starEach [e] X.env)).all (fun x => !x.1) && (backToKw cpos (keywordEach [] X.env)).all (fun x => x.1.isSome)
    && decide (([e] : List Expr).length + ([] : List Keyword).length + (if ([] : List Keyword).isEmpty then 0 else 1) < 30)) = true
  line : (apos.endLine == cpos.line) = true
  trees : backTo cpos (starEach [e] X.env) = [(false, eval e X.env)]
structure M2 (X : Cx) (o : Expr) (m : Str) (apos : Pos) (e f : Expr) (cpos : Pos) : Prop where
  base : attributeBase o m X.env (eval o X.env) = eval o X.env
  few : ((backTo cpos (starEach [e, f] X.env)).all (fun x => !x.1) && (backToKw cpos (keywordEach [] X.env)).all (fun x => x.1.isSome)
    && decide (([e, f] : List Expr).length + ([] : List Keyword).length + (if ([] : List Keyword).isEmpty then 0 else 1) < 30)) = true
  line : (apos.endLine == cpos.line) = true
  trees : backTo cpos (starEach [e, f] X.env) = [(false, eval e X.env), (false, eval f X.env)]
section
variable {X : Cx} {pins : List (Addr × Obj)} {σ : St} {H : Hp} {s : Shared} {a : Addr} {y d : V} {u r : Value} {o : Option V} {A : Around} {E : Value → Shared → Prop}
end
section
variable {X : Cx} {o e f : Expr} {apos cpos : Pos} {td ty tx : TE}
end
/-! ### dict(d): a copy -/
section
variable {X : Cx} {pins : List (Addr × Obj)} {σ : St} {H : Hp} {s : Shared} {a : Addr} {kvs : List (Key × V)} {A : Around} {E : Value → Shared → Prop}
end
section
variable {X : Cx} {pins : List (Addr × Obj)} {σ : St} {H : Hp} {s : Shared} {a : Addr} {y : V} {u : Value} {A : Around} {E : Value → Shared → Prop}
end
end L2
namespace HT
open PySem PyProof.Rows
section
open PySem.SeqAt
open PySem.AutoSeq1 (wpAny_loadPart')
open PySem.MeetsSeq PySem.MeetsSeq2 PySem.MeetsSeq3
end
section
variable {prog : Program} {w : World} {A : Around} {E : Value → Shared → Prop} {s : Shared}
/-! ### t[a:b], not the whole -/
end
end HT
namespace L2
open PySem PySem.Spec PyProof.Rows
/-! ### the parts of a slice -/
section
variable {X : Cx} {e : Expr} {te : TE} {lo hi : Option Expr} {tl th : TO} {pos p2 : Pos}
/-! ### t < u, t + u -/
end
end L2
namespace L2
open PySem PySem.Spec PyProof.Rows
/-! ### places -/
/-- the place that an index of any sign means -/
def ixN (n : Nat) (i : Int) : Option Nat := if 0 ≤ i then (if i < n then some i.toNat else none) else if -(n : Int) ≤ i then some (i + n).toNat else none
def atI {α : Type} (xs : List α) (i : Int) : Option α := (ixN xs.length i).bind fun j => xs[j]?
theorem ixN_seq (h : ixN n i = some j) : seqIndex? i n = some j ∧ j < n ∧ -(n : Int) ≤ i ∧ i < n := by
  unfold ixN at h
  by_cases h0 : 0 ≤ i
  · rw [if_pos h0] at h
    by_cases h1 : i < n
    · rw [if_pos h1] at h
      have e : i.toNat = j := Option.some.inj h
      exact ⟨by rw [seqIndex_of h0 h1, e], by omega, by omega, h1⟩
    · rw [if_neg h1] at h; cases h
  · rw [if_neg h0] at h
    by_cases h1 : -(n : Int) ≤ i
    · rw [if_pos h1] at h
      have e : (i + n).toNat = j := Option.some.inj h
      exact ⟨by rw [seqIndex_neg (by omega) h1, e], by omega, h1, by omega⟩
    · rw [if_neg h1] at h; cases h
theorem atI_get (h : atI xs i = some v) : ∃ j, seqIndex? i xs.length = some j ∧ xs[j]? = some v ∧ j < xs.length ∧ -(xs.length : Int) ≤ i ∧ i < xs.length := by
  unfold atI at h
  cases e : ixN xs.length i with
  | none => rw [e] at h; cases h
  | some j =>
    rw [e] at h
    obtain ⟨h1, h2, h3, h4⟩ := ixN_seq e
    exact ⟨j, h1, h, h2, h3, h4⟩
theorem atI_nat {α : Type} {xs : List α} {j : Nat} {v : α} (h : xs[j]? = some v) : atI xs (j : Int) = some v := by
  have hj : j < xs.length := (List.getElem?_eq_some_iff.mp h).1
  have e : ixN xs.length (j : Int) = some j := by
    unfold ixN
    rw [if_pos (by omega), if_pos (by omega)]; simp
  unfold atI; rw [e]; exact h
/-! ### what may be subscripted -/
/-- what stands as an index of a plain subscript -/
def PlainIx (b : Expr) : Prop := ∀ o i, subscripted b false o i = operate [o, i] (getItem o i)
/-- a subscript by values -/
def IxR (X : Cx) (r : R2) : Prop :=
  ∀ (value slice : Expr) (pins : List (Addr × Obj)) (s : Shared) (σ : St) (H : Hp) (x y : V) (v u : Value) (Q : VK), Inv X pins σ H s → RelV x v → RelV y u → r x y H Q →
    subscripted slice false v u = operate [v, u] (getItem v u) → wpAny (model X.prog X.w) X.A (subscriptTail value slice v u) (EP X pins σ Q) X.xe s
section
variable {X : Cx} {a b : Expr} {ta tb : TE} {pos : Pos}
/-- a[b] -/
theorem pe_ix (hr : IxR X r) (ha : PE X a ta) (hb : PE X b tb) (hs : PlainIx b) : PE X (.Subscript a b pos) (tOp r ta tb) := by
  intro pins s σ H Q I h
  exact Subscript_ (binT ha hb I h fun v u s2 x y H2 I2 rx ry q => hr a b pins s2 σ H2 x y v u Q I2 rx ry q (hs _ _))
inductive rIxL (K : PySem.W.Frag) (x : V) (y : V) (H : Hp) (Q : VK) : Prop where
  | mk(p)(xs)(i)(v)(_ : x = .ref p)(_ : y = .int i)(_ : SqL K H p xs)(_ : atI xs i = some v)(_ : Q v H)
inductive rIxT (K : PySem.W.Frag) (x : V) (y : V) (H : Hp) (Q : VK) : Prop where
  | mk(p)(xs)(i)(v)(_ : x = .ref p)(_ : y = .int i)(_ : SqT K H p xs)(_ : atI xs i = some v)(_ : Q v H)
theorem ix_list : IxR X (rIxL X.K) := by
  intro value slice pins s σ H x y v u Q I rx ry h hs
  obtain ⟨p, xs, i, z, rfl, rfl, hq, he, q⟩ := h
  cases rx
  obtain ⟨t, rfl⟩ := ry
  obtain ⟨its, r, pl, hz⟩ := I.list hq
  obtain ⟨j, h1, h2, h3, h4, h5⟩ := atI_get he
  obtain ⟨w, ew, rw'⟩ := r.get h2
  have hl := r.length
  have hn := line63
  have fin : EP X pins σ Q w s := ⟨z, H, I, rw', q⟩
  by_cases h0 : 0 ≤ i
  · have hj : i.toNat = j := by
      rw [seqIndex_of h0 h5] at h1
      exact Option.some.inj h1
    exact item_listR pl.isList h0 (by omega) (by rw [hj]; simpa using ew) fin hs
  · have hj : (i + (its.toArray.size : Int)).toNat = j := by
      rw [seqIndex_neg (by omega) h4] at h1
      rw [List.size_toArray, ← hl]
      exact Option.some.inj h1
    exact subscriptTail_builtinR (x := w) pl.isList.typeIs slot_list_getitem.lookup
      (wpAny_getItem_list_neg (Q := fun r s' => r = w ∧ EP X pins σ Q r s') pl.isList (by omega) (by rw [List.size_toArray] <;> omega) (by omega) (by rw [hj]; simpa using ew) ⟨rfl, fin⟩) hs
theorem ix_tup : IxR X (rIxT X.K) := by
  intro value slice pins s σ H x y v u Q I rx ry h hs
  obtain ⟨p, xs, i, z, rfl, rfl, hq, he, q⟩ := h
  cases rx
  obtain ⟨t, rfl⟩ := ry
  obtain ⟨its, r, pl, hz⟩ := I.tuple hq
  obtain ⟨j, h1, h2, h3, h4, h5⟩ := atI_get he
  obtain ⟨w, ew, rw'⟩ := r.get h2
  have hl := r.length
  have hn := line63
  have fin : EP X pins σ Q w s := ⟨z, H, I, rw', q⟩
  exact subscriptTail_builtinR (x := w) pl.typeIs slot_tuple_getitem.lookup
    (getItem_tuple (j := j) (Q := fun r s' => r = w ∧ EP X pins σ Q r s') pl (by omega) (by omega) (by rw [List.size_toArray, ← hl]; exact h1) (by simpa using ew) ⟨rfl, fin⟩) hs
/-! ### xs[i] = v, any sign -/
/-! ### slices -/
/-! ### in, not in: flat items -/
def flatV : V → Bool
  | .non => true
  | .bl _ => true
  | .int _ => true
  | .str _ => true
  | _ => false
/-- == of flat values -/
def eqV : V → V → Bool
  | .non, .non => true
  | .bl a, .bl b => a == b
  | .bl a, .int b => (if a then 1 else 0) == b
  | .int a, .bl b => a == (if b then 1 else 0)
  | .int a, .int b => a == b
  | .str a, .str b => a == b
  | _, _ => false
theorem eqAt_V (ry : RelV y u) (rx : RelV x v) (fy : flatV y = true) (fx : flatV x = true) : SeqAt.EqAt A s u v (eqV y x) := by
  cases y with
  | non =>
    cases ry
    cases x with
    | non => cases rx; exact SeqAt.EqAt.same _
    | bl b => cases rx; exact SeqAt.EqAt.none_bool b
    | int b => obtain ⟨t, rfl⟩ := rx; exact SeqAt.EqAt.none_int b t
    | str b => obtain ⟨t, rfl⟩ := rx; exact SeqAt.EqAt.none_str b t
    | _ => exact absurd (show false = true from fx) Bool.false_ne_true
  | bl a =>
    cases ry
    cases x with
    | non => cases rx; exact SeqAt.EqAt.bool_none a
    | bl b => cases rx; exact SeqAt.EqAt.bool_bool a b
    | int b => obtain ⟨t, rfl⟩ := rx; exact SeqAt.EqAt.bool_int a b t
    | str b => obtain ⟨t, rfl⟩ := rx; exact SeqAt.EqAt.bool_str a b t
    | _ => exact absurd (show false = true from fx) Bool.false_ne_true
  | int a =>
    obtain ⟨t', rfl⟩ := ry
    cases x with
    | non => cases rx; exact SeqAt.EqAt.int_none a t'
    | bl b => cases rx; exact SeqAt.EqAt.int_bool a t' b
    | int b => obtain ⟨t, rfl⟩ := rx; exact SeqAt.EqAt.int_int a t' b t
    | str b => obtain ⟨t, rfl⟩ := rx; exact SeqAt.EqAt.int_str a t' b t
    | _ => exact absurd (show false = true from fx) Bool.false_ne_true
  | str a =>
    obtain ⟨t', rfl⟩ := ry
    cases x with
    | non => cases rx; exact SeqAt.EqAt.str_none a t'
    | bl b => cases rx; exact SeqAt.EqAt.str_bool a t' b
    | int b => obtain ⟨t, rfl⟩ := rx; exact SeqAt.EqAt.str_int a t' b t
    | str b => obtain ⟨t, rfl⟩ := rx; exact SeqAt.EqAt.str_str a t' b t
    | _ => exact absurd (show false = true from fx) Bool.false_ne_true
  | _ => exact absurd (show false = true from fy) Bool.false_ne_true
/-- the items' answers, read off the values (a value's own answer does not lean on its token) -/
def eqU (x : V) (u : Value) : Bool := match u with
  | .none => eqV .non x
  | .bool b => eqV (.bl b) x
  | .int i _ => eqV (.int i) x
  | .str z _ => eqV (.str z) x
  | _ => false
theorem eqU_of (r : RelV y u) (f : flatV y = true) : eqU x u = eqV y x := by
  cases y with
  | non => cases r; rfl
  | bl b => cases r; rfl
  | int i => obtain ⟨t, rfl⟩ := r; rfl
  | str z => obtain ⟨t, rfl⟩ := r; rfl
  | _ => exact absurd (show false = true from f) Bool.false_ne_true
theorem any_eqU : ∀ {xs : List V} {us : List Value}, Vals xs us → xs.all flatV = true → us.any (eqU x) = xs.any fun y => eqV y x
  | _, _, .nil, _ => rfl
  | y :: xs, u :: us, .cons r t, f => by
    rw [List.all_cons, Bool.and_eq_true] at f
    rw [List.any_cons, List.any_cons, eqU_of r f.1, any_eqU t f.2]
theorem mem_eqAt (rx : RelV x v) (fx : flatV x = true) : ∀ {xs : List V} {us : List Value}, Vals xs us → xs.all flatV = true → ∀ u ∈ us, SeqAt.EqAt A s u v (eqU x u)
  | _, _, .nil, _ => fun u hu => by cases hu
  | y :: xs, u :: us, .cons r t, f => fun u' hu => by
    rw [List.all_cons, Bool.and_eq_true] at f
    rcases List.mem_cons.mp hu with rfl | hu
    · rw [eqU_of r f.1]; exact eqAt_V r rx f.1 fx
    · exact mem_eqAt rx fx t f.2 u' hu
def inV (x : V) (xs : List V) : Bool := xs.any fun y => eqV y x
/-- x in a list or tuple of flat items -/
inductive rIn (K : PySem.W.Frag) (neg : Bool) (x : V) (y : V) (H : Hp) (Q : VK) : Prop where
  | mk(p)(xs)(_ : y = .ref p)(_ : (SqL K H p xs ∨ SqT K H p xs))(_ : flatV x = true)(_ : xs.all flatV = true)(_ : Q (.bl (if neg then !inV x xs else inV x xs)) H)
theorem op_in_seq : OpR X (compareOp .In) (rIn X.K false) := by
  intro pins s σ H x y v u Q I rx ry h
  obtain ⟨p, xs, rfl, hq, fx, fs, q⟩ := h
  cases ry
  rcases hq with hq | hq
  · obtain ⟨its, r, pl, hz⟩ := I.list hq
    refine SeqAt.in_listAt (eqU x) pl.isList (fun w hw => mem_eqAt rx fx r fs w (by simpa using hw)) ⟨.bl _, H, I, rfl, ?_⟩
    rw [show its.toArray.any (eqU x) = its.any (eqU x) by simp, any_eqU r fs]
    exact q
  · obtain ⟨its, r, pl, hz⟩ := I.tuple hq
    refine SeqAt.in_tupleAt (eqU x) pl (fun w hw => mem_eqAt rx fx r fs w (by simpa using hw)) ⟨.bl _, H, I, rfl, ?_⟩
    rw [show its.toArray.any (eqU x) = its.any (eqU x) by simp, any_eqU r fs]
    exact q
/-! ### len, list(x), tuple(x) of any list or tuple that is read -/
theorem call_len_seq : CallR X (.builtin "len") (fun xs H Q => ∃ p ys, xs = [.ref p] ∧ (SqL X.K H p ys ∨ SqT X.K H p ys) ∧ Q (.int ys.length) H) := by
  intro pins s σ H xs us Q I r h
  obtain ⟨p, ys, rfl, hq, q⟩ := h
  obtain ⟨u, rfl, rx⟩ := vals1 r
  cases rx
  have hn := line63
  rcases hq with hq | hq
  · obtain ⟨its, r', pl, hz⟩ := I.list hq
    have hlen := r'.length
    exact Calls.call_len_list pl.isList (by simp only [List.size_toArray] <;> omega) ⟨.int ys.length, H, I.tok _, ⟨s.toks + 1, by rw [List.size_toArray, hlen]⟩, q⟩
  · obtain ⟨its, r', pl, hz⟩ := I.tuple hq
    have hlen := r'.length
    exact len_tuple pl (by simp only [List.size_toArray] <;> omega) ⟨.int ys.length, H, I.tok _, ⟨s.toks + 1, by rw [List.size_toArray, hlen]⟩, q⟩
/-! ### the call of a builtin's method: o.m(..) -/
/-- the value is of that builtin type -/
def tyV (K : PySem.W.Frag) (T : String) (x : V) (H : Hp) : Prop := match x with
  | .str _ => T = "str"
  | .int _ => T = "int"
  | .ref p => (T = "list" ∧ ∃ xs, SqL K H p xs) ∨ (T = "tuple" ∧ ∃ o, K.lookup p = some o ∧ o.cls = .type "tuple" ∧ o.dict = none) ∨
      (T = "dict" ∧ ((∃ kvs, H p = some (.dK kvs)) ∨ ∃ kvs, H p = some (.dT kvs))) ∨ (T = "set" ∧ ∃ S n, H p = some (.set S n))
  | _ => False
theorem tyV_is (I : Inv X pins σ H s) (r : RelV x v) (ty : tyV X.K T x H) :
    s.TypeIs v T ∧ ∀ a, v = .ref a → ∃ ob, s.heap.get? a = some ob ∧ ob.dict = none := by
  cases x with
  | str z =>
    obtain ⟨t, rfl⟩ := r
    cases (show T = "str" from ty)
    exact ⟨typeIs_str s z t, fun _ e => nomatch e⟩
  | int i =>
    obtain ⟨t, rfl⟩ := r
    cases (show T = "int" from ty)
    exact ⟨typeIs_int s i t, fun _ e => nomatch e⟩
  | ref p =>
    cases r
    rcases ty with ⟨rfl, xs, hq⟩ | ⟨rfl, o, hk, hc, hd⟩ | ⟨rfl, hk⟩ | ⟨rfl, S, n, hk⟩
    · obtain ⟨its, _, pl, _⟩ := I.list hq
      refine ⟨pl.isList.typeIs, fun a e => ?_⟩
      cases e
      obtain ⟨o, n, e, c, hd, _⟩ := pl
      exact ⟨o, e, hd⟩
    · refine ⟨⟨o, I.kIn p o hk, hc⟩, fun a e => ?_⟩
      cases e
      exact ⟨o, I.kIn _ o hk, hd⟩
    · have z : ∃ o, s.heap.get? p = some o ∧ o.ExactDict := by
        rcases hk with ⟨kvs, hk⟩ | ⟨kvs, hk⟩
        · obtain ⟨_, _, _, _, o, _, _, e, ex, _⟩ := I.hok p _ hk
          exact ⟨o, e, ex⟩
        · obtain ⟨_, _, _, _, o, _, _, e, ex, _⟩ := I.hok p _ hk
          exact ⟨o, e, ex⟩
      obtain ⟨o, e, ex⟩ := z
      refine ⟨⟨o, e, ex.1⟩, fun a e2 => ?_⟩
      cases e2
      exact ⟨o, e, ex.2.1⟩
    · obtain ⟨o, _, _, _, e, ex, _⟩ := I.hok p _ hk
      refine ⟨⟨o, e, ex.1⟩, fun a e2 => ?_⟩
      cases e2
      exact ⟨o, e, ex.2.1⟩
  | _ => exact False.elim ty
variable {o e : Expr} {es : List Expr} {to : TE} {t : TA} {name : Str} {apos cpos : Pos} {T id : String} {r : V → List V → Hp → VK → Prop}
/- xs.append(e), list.index on a module's tuple .. are MtR facts of 06m -/
end
end L2
namespace L2
open PySem PySem.Spec PyProof.Rows
def MtM (X : Cx) (id : String) (r : V → List V → Hp → VK → Prop) : Prop :=
  ∀ (pins : List (Addr × Obj)) (s : Shared) (σ : St) (H : Hp) (x : V) (xs : List V) (v : Value) (us : List Value) (Q : VK), Inv X pins σ H s → RelV x v → Vals xs us → r x xs H Q →
    wpAny (model X.prog X.w) X.A (call (.builtin id) (v :: us)) (EP X pins σ Q) X.xe s
/-! ### lists of values -/
theorem Vals.one : ∀ {x : V} {us : List Value}, Vals [x] us → ∃ u, us = [u] ∧ RelV x u
  | _, _, .cons r .nil => ⟨_, rfl, r⟩
section
variable {X : Cx} {pins : List (Addr × Obj)} {σ : St} {H : Hp} {s : Shared} {l b : Addr} {xs ys zs : List V}
/-! ### the two steps: a tracked list is rewritten, a new list is laid -/
theorem Inv.lset {its its' : List Value} {n : Nat} {f : Array Value → Array Value} {t' : Nat} (I : Inv X pins σ H s) (hH : H l = some (.lst xs))
    (e : s.heap.get? l = some { cls := .type "list", data := .seq its.toArray n }) (hf : f its.toArray = its'.toArray) (hv : Vals ys its') (hz : ys.length ≤ sizeLine) :
    Inv X pins σ (upd H l (.lst ys)) { s with heap := s.heap.update l (Obj.mapSeq f), toks := t' } := by
  have q := PySem.IsL.update e f
  rw [hf] at q
  refine I.write (x := l) (e := l) (by rw [hH]; exact trivial) (.inl rfl) (fun b' u hb hu => (Heap.get?_update_other s.heap (Obj.mapSeq f) (Ne.symm hb)).trans hu) ⟨_, q⟩ ?_
  exact ⟨hz, its', _, hv, q⟩
theorem Inv.lnew (I : Inv X pins σ H s) (hv : Vals ys its) (hz : ys.length ≤ sizeLine) :
    Inv X pins σ (upd H s.heap.objs.size (.lst ys)) { s with heap := s.heap.push { cls := .type "list", data := .seq its.toArray }, toks := t' } :=
  I.laid (fun _ _ q => Heap.get?_push_of_some _ q) (Nat.le_refl _) ⟨hz, its, 0, hv, Heap.get?_push_size _ rfl⟩
theorem Inv.fresh (I : Inv X pins σ H s) : H s.heap.objs.size = none := I.hok.fresh (Nat.le_refl _)
theorem Inv.lstM (I : Inv X pins σ H s) (hH : H l = some (.lst xs)) : xs.length ≤ sizeLine ∧ ∃ (its : List Value) (n : Nat), Vals xs its ∧ xs.length = its.length ∧ s.heap.get? l = some { cls := .type "list", data := .seq its.toArray n } := by
  obtain ⟨z, its, n, r, e⟩ := I.hok l _ hH
  exact ⟨z, its, n, r, r.length, e⟩
end
section
variable {X : Cx}
/-! ### methods -/
inductive rAppend (x : V) (vs : List V) (H : Hp) (Q : VK) : Prop where
  | mk(l)(xs)(y)(_ : x = .ref l)(_ : vs = [y])(_ : H l = some (.lst xs))(_ : xs.length < sizeLine)(_ : Q .non (upd H l (.lst (xs ++ [y]))))
theorem mt_append : MtM X "list.append" rAppend := by
  intro pins s σ H x vs v us Q I rx rv h
  obtain ⟨l, xs, y, rfl, rfl, hH, hz, q⟩ := h
  cases rx
  obtain ⟨u, rfl, ru⟩ := rv.one
  obtain ⟨z, its, n, r, hl, e⟩ := I.lstM hH
  refine call_meets F.slot_list_append ⟨_, e, rfl⟩ F.entry_list_append (F.args_list_append_2 _ _) (PySem.list_append l its.toArray n u (by rw [List.size_toArray]; omega)) ⟨e, ?_⟩
  refine ⟨.non, _, I.lset (its' := its ++ [u]) hH e (by simp) (r.append (.cons ru .nil)) ?_, rfl, q⟩
  rw [List.length_append, List.length_singleton]
  omega
/-! ### list + list, list += list, list * int -/
inductive rCat (x : V) (y : V) (H : Hp) (Q : VK) : Prop where
  | mk(l)(b)(xs)(zs)(_ : x = .ref l)(_ : y = .ref b)(_ : H l = some (.lst xs))(_ : H b = some (.lst zs))(_ : xs.length + zs.length ≤ sizeLine)(_ : ∀ p, H p = none → Q (.ref p) (upd H p (.lst (xs ++ zs))))
theorem op_cat : OpR X (binaryOp .Add) rCat := by
  intro pins s σ H x y v u Q I rx ry h
  obtain ⟨l, b, xs, zs, rfl, rfl, hH, hB, hz, q⟩ := h
  cases rx
  cases ry
  obtain ⟨z, its, n, r, hl, e⟩ := I.lstM hH
  obtain ⟨z2, its2, n2, r2, hl2, e2⟩ := I.lstM hB
  refine PySem.P.add_list e e2 ?_ (by rw [List.size_toArray, List.size_toArray]; omega)
  have ea : its.toArray ++ its2.toArray = (its ++ its2).toArray := by simp
  rw [ea]
  exact ⟨.ref _, _, I.lnew (t' := s.toks) (r.append r2) (by rw [List.length_append]; omega), rfl, q _ I.fresh⟩
/-! ### del xs[i] -/
end
/-! ### xs[a:b] = ys -/
section
variable {prog : Program} {w : World} {A : Around} {E : Value → Shared → Prop} {s : Shared}
end
section
variable {X : Cx}
end
end L2
namespace Att
open PySem PySem.W PySem.Calls PyProof.Rows
/-! ### the script -/
theorem ints_of_wellAll : ∀ (ns : List Int) (vs : List Value), WellAll P h vs (ns.map WData.int) → IntsAre vs ns := by
  intro ns
  induction ns with
  | nil =>
    intro vs w
    rw [List.map_nil] at w
    cases w
    exact .nil
  | cons n ns ih =>
    intro vs w
    rw [List.map_cons] at w
    cases w with
    | cons a b =>
      cases a
      exact .cons _ _ (ih _ b)
theorem script_of {l : OpenLaw} {n : Nat} (hn : l.most = some n) {P : Params} {h : Heap} {args : List WData} {vals : List Value}
    (hpre : l.row.toRowW.claim.pre args = true) (hwl : WellAll P h vals args) :
    ∃ a vs ns, vals = [Value.ref a] ∧ args = [WData.list (ns.map WData.int)] ∧ h.get? a = some { cls := .type "list", data := .seq vs.toArray } ∧ IntsAre vs ns ∧ ns.length ≤ n := by
  have hsh : WShape.hasAll [] args [.list .int] = true := (pre_splitW hpre).1
  have hc : l.pre.holds [] { args := args } = true := (pre_splitW hpre).2
  obtain ⟨d, r, rfl, h1, h2⟩ := hasAllW_cons hsh
  obtain rfl := hasAllW_nil h2
  obtain ⟨xs, rfl, h3⟩ := hasW_list h1
  obtain ⟨ns, rfl⟩ := items_int h3
  have hlen : ns.length ≤ n := by
    unfold OpenLaw.pre at hc
    have h4 : (WTm.not (.lt (.lit (.int (n : Int))) (.len (.arg 0)))).holds [] { args := [.list (ns.map .int)] } = true := by
      have h4 := (holds_andW hc).1
      rw [hn] at h4
      exact h4
    have h5 := condW_of h4 (w_not (w_lt w_lit (w_len_list (w_arg rfl))))
    rw [List.length_map] at h5
    refine Nat.le_of_not_lt fun q => ?_
    have q' : (n : Int) < ((ns.length : Nat) : Int) := by omega
    first
      | (rw [decide_eq_true q'] at h5; exact absurd h5 (by decide))
      | (simp at h5; omega)
  cases hwl with
  | cons w1 w2 =>
    cases w2
    cases w1 with
    | list ho hall => exact ⟨_, _, ns, rfl, rfl, ho, ints_of_wellAll ns _ hall, hlen⟩
theorem post_true (l : OpenLaw) (args : List WData) : l.row.toRowW.claim.post args (.bool true) args = true :=
  postW_of (r := l.row.toRowW) (X := (true == true))
    (show WShape.has [] (.bool true) .bool = true by first | rfl | decide | simp [WShape.has, WShape.arms, WShape.armsAll])
    (show (WTm.eq .res (.lit (.bool true))).value [] { args := args, res := some (.bool true), after := args } = some (.bool (true == true)) from w_eq_bool (w_res rfl) w_lit) rfl
/-! ### the attachment: holds_open's last premise (the goal 'hc' behind k_head) from a wpAny of the law's body -/
/-- the same from a codeAny of the CALL (for a layer whose function contracts speak of calls) -/
theorem attach_call {l : OpenLaw} {n : Nat} {q : Program} {loose : List Str} {XP : (Str → Option Value) → Heap → Prop} {YP : World → Heap → Prop} {d : DefRec}
    (hn : l.most = some n) (hdf : d.params.defaults = [])
    (call : ∀ (w : World) (s₀ s₁ : Shared) (mg mb : Str → Option Value) (fa : Addr) (o : Obj) (pm cd doc : Value) (a : Addr) (vs : List Value) (ns : List Int),
      Ground q loose [] XP w s₀ mg mb s₁.heap → YP w s₁.heap →
      s₁.heap.get? fa = some o → o.data = .func (docDef d.name d.params d.body d.scope pm cd doc) → s₁.heap.CodeRec cd d.name → mg d.name = some (.ref fa) →
      s₁.heap.get? a = some { cls := .type "list", data := .seq vs.toArray } → IntsAre vs ns → ns.length ≤ n → s₁.gens = #[] →
      codeAny (model l.prog w) callerA (.call (.ref fa) ⟨[.ref a], []⟩) (fun r s' => r = .ok (.ret (.bool true)) ∧ OldK s₁.heap s'.heap ∧ s'.os = s₁.os ∧ AllBare s'.gens) s₁) :
    WalkO q loose XP YP l.row.toRowW d [] (fun f vs => PySem.call f vs) := by
  intro w s₀ s₁ mg mb G Y fa o pm cd doc dV kV ho hd hcd hD hmg hg args vals as hpre hlay hrd hwl hlo
  obtain rfl : dV = .none := Dflts.none hD hdf
  obtain rfl : kV = .none := Dflts.noKw hD
  obtain ⟨a, vs, ns, rfl, rfl, hobj, hints, hlen⟩ := script_of hn hpre hwl
  refine enter_call (codeAny_mono (call w s₀ s₁ mg mb fa o pm cd doc a vs ns G Y ho (fd_plain hd) hcd hmg hobj hints hlen hg) fun r s' hq => ?_)
  obtain ⟨rfl, h2, h3, h4⟩ := hq
  exact ⟨.inl ⟨.bool true, .bool true, [], rfl, fun _ => rfl, .bool true, post_true l _, fun _ => ⟨List.Pairwise.nil, fun _ hm => (nomatch hm)⟩⟩, h2, h3, h4⟩
/-! ### rules over ANY heap (no ledger) from facts about the written part K: the library's own take a ledger (News) for what they write -/
section
variable {prog : Program} {w : World} {A : Around} {E : Value → Shared → Prop} {s : Shared} {K : Frag}
/-! the whole heap as the ledger: makes every rule that writes through a ledger a rule over any heap -/
def noObjs (h : Heap) : Heap := { h with objs := #[] }
theorem noObjs_get (h : Heap) (b : Addr) : (noObjs h).get? b = none := by
  cases e : (noObjs h).get? b with
  | none => rfl
  | some o => exact absurd (Heap.lt_size e) (Nat.not_lt_zero _)
end
end Att
namespace L2
open PySem PySem.Spec PyProof.Rows
theorem vals_ints : ∀ {vs : List Value} {ns : List Int}, IntsAre vs ns → Vals (ns.map V.int) vs
  | _, _, .nil => .nil
  | _, _, .cons n t h => .cons ⟨t, rfl⟩ (vals_ints h)
/-- nothing is tracked but the script, known to the object (or it is an object of the module) -/
def Only (H : Hp) : Prop := ∀ b, H b = none ∨ ∃ o xs, H b = some (.frz o (.lst xs))
/-- THE HEAD: the law's promise, at the heap behind the top. F, the promise of the law's def, may use that base is part of the heap (so K.In base, base.Ns mainGlobals mg stand in Mod) -/
theorem law_call {P : Program} {w : World} {K : PySem.W.Frag} {mg mb : Str → Option Value} {CX : CXT} {k : Nat} {fa a : Addr} {fd : FuncData} {x : Str} {sp : Sp} {s₁ : Shared} {vs : List Value} {ns : List Int}
    (KX : K.In s₁.heap) (hns : s₁.heap.Ns mainGlobals mg) (hb : s₁.heap.Ns builtinsNs mb) (hbb : ∀ x : Str, x ≠ "__name__" → mb x = bootBuiltins x) (hlim : s₁.heap.NoLimit) (hg : s₁.gens = #[])
    (ha : s₁.heap.get? a = some { cls := .type "list", data := .seq vs.toArray }) (hi : IntsAre vs ns) (hl : ns.length ≤ sizeLine) (hr : Room k callerA)
    (F : ∀ base : Heap, K.In base → base.Ns mainGlobals mg → FnOk P w K mg base CX k fa fd [x] sp) (hbind : ∀ (s : Shared) (u : Value), BindsTo s fd ⟨[u], []⟩ [(x, u)])
    (hsp : ∀ H : Hp, Only H → SqL K H a (ns.map V.int) → sp [.ref a] H (fun v _ => v = .bl true) fun _ _ _ => False)
    (hCX : ∀ H e s', CX [] H s₁ (fun _ _ _ => False) e s' → False) :
    codeAny (model P w) callerA (.call (.ref fa) ⟨[.ref a], []⟩) (fun r s' => r = .ok (.ret (.bool true)) ∧ OldK s₁.heap s'.heap ∧ s'.os = s₁.os ∧ AllBare s'.gens) s₁ := by
  have rv := vals_ints hi
  have lenV := hi.length
  -- from an abstract heap in which nothing but the script may be tracked
  have core : ∀ H : Hp, Only H → SqL K H a (ns.map V.int) → HOk P w H s₁.heap → (∀ b, H b ≠ none → b = a) → (H a ≠ none → K.lookup a = none) →
      codeAny (model P w) callerA (.call (.ref fa) ⟨[.ref a], []⟩) (fun r s' => r = .ok (.ret (.bool true)) ∧ OldK s₁.heap s'.heap ∧ s'.os = s₁.os ∧ AllBare s'.gens) s₁ := by
    intro H hO hS hok hA hK
    have base_of : ∀ {b : Addr} {o : Obj}, s₁.heap.get? b = some o → H b = none → (hidT s₁.heap H).get? b = some o := fun e n => hidT_get e n
    have noA : ∀ {b : Addr} {o : Obj} {es : Array DictEntry} {ep : Nat}, s₁.heap.get? b = some o → o.data = .dict es ep → H b = none := fun {b o es ep} e d => by
      cases q : H b with
      | none => rfl
      | some u =>
        have e' : b = a := hA b (by rw [q]; simp)
        subst e'
        rw [ha] at e; cases e
        have d' : Data.seq vs.toArray _ = Data.dict es ep := d
        cases d'
    have nsK : ∀ {b : Addr} {m : Str → Option Value}, s₁.heap.Ns b m → (hidT s₁.heap H).Ns b m := fun {b m} ⟨o, es, ep, e, d, r⟩ => ⟨o, es, ep, base_of e (noA e d), d, r⟩
    have hKb : K.In (hidT s₁.heap H) := fun b o e => base_of (KX b o e) (by
      cases q : H b with
      | none => rfl
      | some u =>
        have e' : b = a := hA b (by rw [q]; simp)
        subst e'
        rw [hK (by rw [q]; simp)] at e; cases e)
    have hM : Mod K mg (hidT s₁.heap H) := ⟨hKb, nsK hns, ⟨mb, nsK hb, hbb⟩, let ⟨mc, h1, h2⟩ := hlim; ⟨mc, nsK h1, h2⟩⟩
    have e0 : Env0 P w K mg (hidT s₁.heap H) callerA [] s₁ H := ⟨rfl, hM, fun b o e => of_hidT e, Nat.le_of_eq (hidT_size _ _), trivial, fun b hb => absurd (show b ∈ ([] : List Addr) from hb) (by simp), hok, .of_eq hg⟩
    refine codeAny_mono ((F _ hKb (nsK hns)).run callerA [] s₁ H ⟨[.ref a], []⟩ [.ref a] [.ref a] _ _ hr e0 (hbind s₁ (.ref a)) (.cons rfl .nil) (hsp H hO hS)) fun r s' h => ?_
    cases r with
    | error e => exact (hCX H e s' h).elim
    | ok fl =>
      cases fl with
      | next => exact False.elim h
      | brk => exact False.elim h
      | cont => exact False.elim h
      | ret u =>
        obtain ⟨v, H', os, bare, un, hok', r', q⟩ := h
        have q' : v = .bl true := q
        subst q'
        obtain rfl : u = Value.bool true := r'
        refine ⟨rfl, OldK.of_keep fun b o e => ?_, os, bare⟩
        cases q : H b with
        | none => exact un.keep b o e q (by intro z; exact absurd (show b ∈ ([] : List Addr) from z) (by simp)) (by simp)
        | some u =>
          rcases hO b with z | ⟨ob, xs, z⟩
          · rw [q] at z; cases z
          · have z2 := un.frzs b ob _ z
            obtain ⟨e1, _⟩ := hok b _ z
            obtain ⟨e2, _⟩ := hok' b _ z2
            rw [e] at e1; cases e1
            exact e2
  cases hk : K.lookup a with
  | some o =>
    -- the script is one of the module's own objects
    have e := KX a o hk
    rw [ha] at e
    cases e
    refine core (fun _ => none) (fun _ => .inl rfl) (.inr ⟨_, vs.toArray, _, hk, rfl, rfl, rfl, by rw [List.size_toArray, lenV]; exact hl, by simpa using rv⟩) (fun b u z => by have z' : (none : Option HO) = some u := z; cases z') (fun b z => absurd rfl z) fun z => absurd rfl z
  | none =>
    refine core (fun b => if b = a then some (.frz { cls := .type "list", data := .seq vs.toArray } (.lst (ns.map V.int))) else none) (fun b => ?_) (.inl (.inr ⟨{ cls := .type "list", data := .seq vs.toArray }, if_pos rfl⟩)) (fun b u z => ?_) (fun b z => ?_) fun _ => hk
    · by_cases hb : b = a
      · exact .inr ⟨_, _, if_pos hb⟩
      · exact .inl (if_neg hb)
    · by_cases hb : b = a
      · have z' := (if_pos hb).symm.trans z
        cases z'
        subst hb
        exact ⟨ha, by rw [List.length_map]; exact hl, vs, _, rv, ha⟩
      · have z' := (if_neg hb).symm.trans z
        cases z'
    · by_cases hb : b = a
      · exact hb
      · exact absurd (if_neg hb) z
end L2
namespace L2
open PySem PySem.Spec PyProof.Rows
/-- the goal that k_head leaves (case hc), from the law's promise. F gives the function object fd (K's own) once, then the promise over every base -/
theorem walk_of {l : PySem.W.OpenLaw} {n k : Nat} {q : Program} {loose : List Str} {XP : (Str → Option Value) → Heap → Prop} {YP : World → Heap → Prop} {d : DefRec} {K : Params → PySem.W.Frag} {CX : World → CXT} {sp : World → Sp} {x : Str}
    (hn : l.most = some n) (hn2 : n ≤ sizeLine) (hdf : d.params.defaults = []) (hr : Room k callerA)
    (hY : ∀ (w : World) (h : Heap), YP w h → (K w.params).In h)
    (F : ∀ (w : World) (mg : Str → Option Value) (fa : Addr) (h : Heap), (K w.params).In h → h.Ns mainGlobals mg → mg d.name = some (.ref fa) →
      ∃ fd : FuncData, (∀ (s : Shared) (u : Value), BindsTo s fd ⟨[u], []⟩ [(x, u)]) ∧
        ∀ base : Heap, (K w.params).In base → base.Ns mainGlobals mg → FnOk l.prog w (K w.params) mg base (CX w) k fa fd [x] (sp w))
    (hsp : ∀ (w : World) (H : Hp) (a : Addr) (ns : List Int), ns.length ≤ n → Only H → SqL (K w.params) H a (ns.map V.int) → sp w [.ref a] H (fun v _ => v = .bl true) fun _ _ _ => False)
    (hCX : ∀ (w : World) (H : Hp) (s : Shared) (e : Value) (s' : Shared), CX w [] H s (fun _ _ _ => False) e s' → False) :
    PySem.W.WalkO q loose XP YP l.row.toRowW d [] (fun f vs => PySem.call f vs) := by
  refine Att.attach_call hn hdf fun w s₀ s₁ mg mb fa o pm cd doc a vs ns G Y ho hd hcd hmg hobj hints hlen hg => ?_
  have KX := hY w _ Y
  obtain ⟨fd, hb, hF⟩ := F w mg fa _ KX G.T.g hmg
  exact law_call KX G.T.g G.T.b G.T.builtins G.T.nolimit hg hobj hints (Nat.le_trans hlen hn2) hr hF hb (fun H hO hS => hsp w H a ns hlen hO hS) fun H e s' => hCX w H s₁ e s'
end L2
/- THE LAST THEOREM (shape; LID, My.* are yours):
   My.Adr: a structure of the addresses that your layer names (classes, functions); My.Txt K t: a structure (Prop) of the equations over K;
   My.txt_mk : {K} {implicit addresses ..} (e1 : nsIn K mainGlobals "law" = some (some (.ref f))) (e2 : K.lookup f = some ⟨oc, od, .func (fnOf "law" "law" params body scope dV kV doc pm an cdv ct), sl⟩) (e3 : codeIn K cdv "law" = true) .. : ∃ t, My.Txt K t
set_option maxRecDepth 100000 in
set_option maxHeartbeats 0 in
theorem PySem.Challenge.cw_LID_holds : PySem.Challenge.rw_LID.Holds := by
  w_on; o_law; k_head; (case hw => w_witness2)
  k_fill
  refine L2.walk_of (l := PySem.Challenge.rw_LID) (n := 63) (k := 40) (x := "script") (CX := fun w => ..) (sp := fun _ => My.sp_law) rfl (by decide) rfl ⟨rfl, by decide, by decide⟩ (fun w h Y => PySem.W.kIn_of Y) ?F ?S ?C
  case F =>
    intro w mg fa h KX G hmg
    have T : ∃ t, My.Txt (L2.KOf KX) t := by
      dsimp only [L2.KOf]                          -- K must stand as «<heap const> w.params» for k_is
      refine' My.txt_mk ?e1 ?e2 ?e3 ..
      (case e1 => PySem.W.k_is)                    -- in the order: a name -> its address -> its object -> its parts
      (case e2 => PySem.W.k_is)
      ..
    obtain ⟨t, T⟩ := T
    have e0 := hmg.symm.trans (PySem.W.mg_of KX G T.law)
    cases e0                                       -- fa is the law's own address
    exact ⟨_, fun s u => .of_eq rfl, fun base kb nb => My.law_fn T kb nb⟩     -- if «.of_eq rfl» comes too early: refine' ⟨_, ?b, fun base kb nb => My.law_fn T kb nb⟩; exact fun s u => .of_eq rfl
  case S => exact fun w H a ns hl hO hS => ..
  case C => exact ..
(the tactic k_is has no namespace: write k_is) -/
/-! SHORT WORDS over the layer: a def of the text, its body, what a loop and a test want. -/
namespace L2
open PySem PySem.Spec PyProof.Rows
/-! ### the text by places -/
/-- the j-th statement of a class's body -/
def inClass (s : Stmt) (j : Nat) : Stmt := match s with
  | .ClassDef _ _ _ body _ _ _ _ _ _ _ => body.getD j (.Pass ⟨0, 0, 0, 0⟩)
  | _ => .Pass ⟨0, 0, 0, 0⟩
def defArgs (s : Stmt) : Arguments := match s with
  | .FunctionDef _ a _ _ _ _ _ _ _ _ => a
  | _ => { posonlyargs := [], args := [], vararg := none, kwonlyargs := [], kw_defaults := [], kwarg := none, defaults := [] }
def defBody (s : Stmt) : List Stmt := match s with
  | .FunctionDef _ _ b _ _ _ _ _ _ _ => b
  | _ => []
def defScope (s : Stmt) : Scope := match s with
  | .FunctionDef _ _ _ _ _ _ sc _ _ _ => sc
  | _ => { kind := .function, names := [], isGenerator := false, isCoroutine := false }
/-! ### no exception leaves a def -/
/-! ### a def (or method) of the text as it stands behind the top -/
structure Fun (K : PySem.W.Frag) (x qual : Str) (st : Stmt) (f : Addr) (fd : FuncData) : Prop where
  ex : ∃ (oc : Value) (od : Option Addr) (kV doc pm : Value) (an : Option Addr) (cdv ct : Value) (osl : Array (Option Value)),
    fd = PySem.W.fnOf x qual (defArgs st) (defBody st) (defScope st) .none kV doc pm an cdv ct ∧ K.lookup f = some ⟨oc, od, .func fd, osl⟩ ∧ PySem.W.codeIn K cdv qual = true
  kp : PySem.W.keepIn K (.ref f) = true
section
variable {P : Program} {w : World} {K : PySem.W.Frag} {mg : Str → Option Value} {base : Heap}
/-- how its arguments bind (no defaults): h is «fun _ _ _ _ _ _ us hl => match us, hl with | [_, _], _ => rfl», one _ a parameter -/
theorem Fun.binds {x qual : Str} {st : Stmt} {f : Addr} {fd : FuncData} {ps : List Str} (F : Fun K x qual st f fd)
    (h : ∀ (kV doc pm : Value) (an : Option Addr) (cdv ct : Value) (us : List Value), us.length = ps.length → bindArgs (PySem.W.fnOf x qual (defArgs st) (defBody st) (defScope st) .none kV doc pm an cdv ct) ⟨us, []⟩ = pure (ps.zip us)) : Binds K fd ps [] := by
  obtain ⟨oc, od, kV, doc, pm, an, cdv, ct, osl, rfl, lk, hcd⟩ := F.ex
  exact .all (h kV doc pm an cdv ct)
theorem fun_mk {x qual : Str} {st : Stmt} {f : Addr} {oc : Value} {od an : Option Addr} {osl : Array (Option Value)} {kV doc pm cdv ct : Value} (l : K.lookup f = some ⟨oc, od, .func (PySem.W.fnOf x qual (defArgs st) (defBody st) (defScope st) .none kV doc pm an cdv ct), osl⟩)
    (c : PySem.W.codeIn K cdv qual = true) (k : PySem.W.keepIn K (.ref f) = true) : Fun K x qual st f (PySem.W.fnOf x qual (defArgs st) (defBody st) (defScope st) .none kV doc pm an cdv ct) := ⟨⟨oc, od, kV, doc, pm, an, cdv, ct, osl, rfl, l, c⟩, k⟩
end
theorem hu_of (hr : Room k A) : A.units + 1 < cLine := Nat.lt_of_le_of_lt (Nat.add_le_add_left (by decide : 1 ≤ 64) _) hr.units
theorem small1000 (h : n ≤ 1000) : n < sizeLine := Nat.lt_of_le_of_lt h (by decide)
/-! ### expressions in short: the name that stands in the i-th slot -/
section
variable {X : Cx}
theorem pv (i : Nat) (hN : X.N[i]? = some x := by rfl) (hv : Vis X.env.scope x := by first | exact Or.inl rfl | exact Or.inr (Or.inl rfl) | exact Or.inr (Or.inr rfl)) (hd : (x == ("__debug__" : Str)) = false := by decide)
    (hcd : (x == ("__classdict__" : Str)) = false := by decide) : PE X (.Name x pos) (tVar i) := pe_var hN hv hd hcd
/-- len of a dict -/
theorem call_lenD : CallR X (.builtin "len") (fun xs H Q => ∃ a kvs, xs = [V.ref a] ∧ H a = some (.dK kvs) ∧ Q (.int kvs.length) H) := by
  intro pins s σ H xs us Q I r h
  obtain ⟨a, kvs, rfl, ha, q⟩ := h
  obtain ⟨u, rfl, ru⟩ := vals1 r
  cases ru
  exact d_len I (.inl ha) fun t s' I' => ⟨.int kvs.length, H, I', ⟨t, rfl⟩, q⟩
end
/-! ### tests -/
theorem iteF {A B : Prop} (h : B) : if false = true then A else B := by
  rw [if_neg Bool.false_ne_true]
  exact h
theorem iteT {A B : Prop} (h : A) : if true = true then A else B := by
  rw [if_pos rfl]
  exact h
theorem ite2 {c A B : Prop} [Decidable c] (h1 : c → A) (h2 : ¬ c → B) : if c then A else B := by
  by_cases h : c
  · rw [if_pos h]
    exact h1 h
  · rw [if_neg h]
    exact h2 h
/-! ### heaps -/
/-- all that was tracked is as it was -/
def Same (H H' : Hp) : Prop := ∀ b o, H b = some o → H' b = some o
theorem Same.trans (a : Same H H1) (b : Same H1 H2) : Same H H2 := fun c o h => b c o (a c o h)
theorem Same.free (e : Same H H') (h : H' l = Option.none) : H l = Option.none := by
  cases q : H l with
  | none => rfl
  | some o =>
    rw [e l o q] at h
    cases h
theorem Same.seq {K : PySem.W.Frag} {H H' : Hp} {a : Addr} {xs : List V} (e : Same H H') (h : SqL K H a xs) : SqL K H' a xs := by
  rcases h with (h | ⟨o, h⟩) | h
  · exact .inl (.inl (e _ _ h))
  · exact .inl (.inr ⟨o, e _ _ h⟩)
  · exact .inr h
/-! ### a dict's pairs: keys that differ -/
section
variable {κ : Type} [DecidableEq κ]
theorem nd_snoc : ∀ {l : List κ} {k : κ}, l.Nodup → ¬ k ∈ l → (l ++ [k]).Nodup
  | [], k, _, _ => by simp
  | a :: r, k, h, hk => by
    obtain ⟨h1, h2⟩ := List.nodup_cons.mp h
    show (a :: (r ++ [k])).Nodup
    refine List.nodup_cons.mpr ⟨fun m => ?_, nd_snoc h2 fun m => hk (List.mem_cons.mpr (Or.inr m))⟩
    rcases List.mem_append.mp m with q | q
    · exact h1 q
    · exact hk (List.mem_cons.mpr (Or.inl (List.mem_singleton.mp q).symm))
end
end L2
namespace L2
open PySem PySem.Spec PyProof.Rows
section
variable {X : Cx} {pins : List (Addr × Obj)} {σ : List (Option V)} {H H' : Hp} {s : Shared} {h' : Heap}
theorem Inv.stepN {g' : Array GenState} {t' : Nat} {d' : Drawn} {ch : List Addr} (I : Inv X pins σ H s)
    (hch : ∀ b ∈ ch, (b ∈ X.ex ∨ X.s₀.heap.get? b = none) ∧ b ≠ X.env.locals ∧ (∀ x c, X.env.cells.lookup x = some c → c ≠ b) ∧ ∀ p ∈ X.pn ++ pins, p.1 ≠ b)
    (keep : ∀ b o, b ≠ X.env.locals → b ∉ X.fs → b ∉ ch → s.heap.get? b = some o → H b = none → h'.get? b = some o)
    (slot : ∀ b o, b ≠ X.env.locals → b ∈ X.fs → b ∉ ch → s.heap.get? b = some o → H b = none → ∃ sl, h'.get? b = some { o with slots := sl }) (free : ∀ b o, b ∉ ch → s.heap.get? b = some o → H b = none → H' b = none)
    (there : ∀ b o, b ∉ ch → s.heap.get? b = some o → ∃ o', h'.get? b = some o')
    (tups : ∀ b xs, H b = some (.tup xs) → H' b = some (.tup xs)) (frzs : ∀ b o u, H b = some (.frz o u) → H' b = some (.frz o u)) (tbls : ∀ b ps, H b = some (.tbl ps) → ∃ more, H' b = some (.tbl (ps ++ more)))
    (ns : ∀ m, s.heap.Ns X.env.locals m → h'.Ns X.env.locals m) (hok : HOk X.prog X.w H' h') (hg : AllBare g') :
    Inv X pins σ H' { s with heap := h', gens := g', drawn := d', toks := t' } := by
  have neL : ∀ b o, X.s₀.heap.get? b = some o → b ≠ X.env.locals := fun b o e => Nat.ne_of_lt (Nat.lt_of_lt_of_le (Heap.lt_size e) I.ok.above)
  have neC : ∀ b o, X.s₀.heap.get? b = some o → b ∉ X.ex → b ∉ ch := fun b o e hx hb => by
    rcases (hch b hb).1 with z | z
    · exact hx z
    · rw [z] at e; cases e
  have cellK : ∀ x c, X.env.cells.lookup x = some c → ∀ v, s.heap.IsCell c v → h'.IsCell c v := fun x c e v ⟨o, ho, hd⟩ => by
    have nch : c ∉ ch := fun z => (hch c z).2.2.1 x c e rfl
    by_cases hc : c ∈ X.fs
    · obtain ⟨sl, q⟩ := slot c o (I.cne x c e) hc nch ho (I.freeC x c e)
      exact ⟨_, q, hd⟩
    · exact ⟨o, keep c o (I.cne x c e) hc nch ho (I.freeC x c e), hd⟩
  refine ⟨I.ok, I.os, hg, ⟨fun b o e n hb hx => ?_, fun b o e n hb hx => ?_, fun b o e n hx => ?_, fun b o e hx => ?_, fun b xs e => tups b xs (I.base.tups b xs e), fun b o xs e => frzs b o xs (I.base.frzs b o xs e), fun b ps e => ?_⟩, ?_, fun x c e => ?_, ?_, fun x c e => ?_, fun p hp => ?_, hok, I.len⟩
  · exact keep b o (neL b o e) hb (neC b o e hx) (I.base.keep b o e n hb hx) (I.base.free b o e n hx)
  · obtain ⟨sl, e1⟩ := I.base.slot b o e n hb hx
    obtain ⟨sl', e2⟩ := slot b _ (neL b o e) hb (neC b o e hx) e1 (I.base.free b o e n hx)
    exact ⟨sl', e2⟩
  · obtain ⟨o', e1⟩ := I.base.there b o e hx
    exact free b o' (neC b o e hx) e1 (I.base.free b o e n hx)
  · obtain ⟨o', e1⟩ := I.base.there b o e hx
    exact there b o' (neC b o e hx) e1
  · obtain ⟨m1, e1⟩ := I.base.tbls b ps e
    obtain ⟨m2, e2⟩ := tbls b _ e1
    exact ⟨m1 ++ m2, by rw [e2, Array.append_assoc]⟩
  · obtain ⟨m, hn, hl⟩ := I.loc
    refine ⟨m, ns m hn, fun i x v e1 e2 e3 => ?_⟩
    obtain ⟨u, r, l⟩ := hl i x v e1 e2 e3
    refine ⟨u, r, ?_⟩
    rcases l with l | ⟨k, c, e, z⟩
    · exact .inl l
    · exact .inr ⟨k, c, e, cellK x c e _ z⟩
  · obtain ⟨v, z⟩ := I.cell x c e
    exact ⟨v, cellK x c e v z⟩
  · obtain ⟨m, ⟨o, _, _, ho, _⟩, _⟩ := I.loc
    exact free _ o (fun z => (hch _ z).2.1 rfl) ho I.free
  · obtain ⟨v, o, ho, hd⟩ := I.cell x c e
    exact free c o (fun z => (hch c z).2.2.1 x c e rfl) ho (I.freeC x c e)
  · obtain ⟨e, n, ne, nf, d⟩ := I.pin p hp
    have nch : p.1 ∉ ch := fun z => (hch p.1 z).2.2.2 p hp rfl
    exact ⟨keep p.1 p.2 ne nf nch e n, free p.1 p.2 nch e n, ne, nf, d⟩
theorem Inv.callN {g' : Array GenState} {t' : Nat} {d' : Drawn} {ch : List Addr} (I : Inv X pins σ H s) (u : Un (frs X.stack) ch H H' s.heap h') (hok : HOk X.prog X.w H' h') (hg : AllBare g')
    (hch : ∀ b ∈ ch, (b ∈ X.ex ∨ X.s₀.heap.get? b = none) ∧ b ≠ X.env.locals ∧ (∀ x c, X.env.cells.lookup x = some c → c ≠ b) ∧ ∀ p ∈ X.pn ++ pins, p.1 ≠ b) :
    Inv X pins σ H' { s with heap := h', gens := g', drawn := d', toks := t' } := by
  obtain ⟨m, ⟨o, es, ep, ho, r⟩, _⟩ := id I.loc
  obtain ⟨sl, hL⟩ := u.any ho I.free fun z => (hch _ z).2.1 rfl
  exact I.stepN (ch := ch) hch (fun b o hL hb hc e n => u.keep b o e n (fun z => (List.mem_cons.mp (I.stkSub b z)).elim hL hb) hc) (fun b o _ _ hc e n => u.any e n hc) (fun b o hc e n => u.free b o e n hc) (fun b o hc e => u.there b o e hc) u.tups u.frzs u.tbls (fun m' hm => by
    obtain ⟨o', es', ep', ho', r'⟩ := hm
    rw [ho] at ho'; cases ho'
    exact ⟨_, es', ep', hL, r'⟩) hok hg
theorem Inv.callN' (I : Inv X pins σ H s) (ho : s'.os = s.os) (u : Un (frs X.stack) ch H H' s.heap s'.heap) (hok : HOk X.prog X.w H' s'.heap) (hg : AllBare s'.gens)
    (hch : ∀ b ∈ ch, (b ∈ X.ex ∨ X.s₀.heap.get? b = none) ∧ b ≠ X.env.locals ∧ (∀ x c, X.env.cells.lookup x = some c → c ≠ b) ∧ ∀ p ∈ X.pn ++ pins, p.1 ≠ b) : Inv X pins σ H' s' := by
  obtain ⟨h', g', d', t', o'⟩ := s'
  have e : o' = s.os := ho
  subst e
  exact I.callN (g' := g') (t' := t') (d' := d') u hok hg hch
end
end L2

set_option Elab.async false
set_option linter.all false
set_option maxRecDepth 100000
/-! Exceptions over the layer: raise, passing a frame, try, isinstance of an exception. -/
namespace L2
open PySem PySem.Spec PyProof.Rows
section
variable {P : Program} {w : World} {H H' : Hp} {h h' g : Heap} {a : Addr} {o : HO}
theorem ObjOk.there (x : ObjOk P w H h a o) : ∃ ob, h.get? a = some ob := by
  cases o with
  | lst xs => obtain ⟨_, _, _, _, e⟩ := x; exact ⟨_, e⟩
  | tup xs => obtain ⟨_, _, _, ob, e, _⟩ := x; exact ⟨_, e⟩
  | dK kvs => obtain ⟨_, _, _, _, o, _, _, e, _⟩ := x; exact ⟨_, e⟩
  | dT kvs => obtain ⟨_, _, _, _, o, _, _, e, _⟩ := x; exact ⟨_, e⟩
  | set S n => obtain ⟨o, _, _, _, e, _⟩ := x; exact ⟨_, e⟩
  | ins C dx fs => obtain ⟨_, _, _, e, _⟩ := x; exact ⟨_, e⟩
  | own y => obtain ⟨_, e⟩ := x; exact ⟨_, e⟩
  | xd fs => obtain ⟨_, ⟨_, _, _, e, _⟩, _⟩ := x; exact ⟨_, e⟩
  | rng lo hi => obtain ⟨_, _, _, e⟩ := x; exact ⟨_, e⟩
  | frz ob u => obtain ⟨e, _⟩ := x; exact ⟨_, e⟩
  | tbl ps => exact ⟨_, (show h.get? a = some _ from x)⟩
  | met f y => exact ⟨_, (show h.get? a = some _ from x)⟩
  | ext φ => obtain ⟨_, ⟨_, e⟩, _⟩ := x; exact ⟨_, e⟩
theorem HOk.none_of (x : HOk P w H h) (e : h.get? a = none) : H a = none := by
  cases q : H a with
  | none => rfl
  | some u =>
    obtain ⟨_, z⟩ := (x a u q).there
    rw [e] at z; cases z
theorem hid_none (e : (PySem.W.hideAll h as).get? a = none) : h.get? a = none ∨ a ∈ as := by
  by_cases m : a ∈ as
  · exact .inr m
  · cases q : h.get? a with
    | none => exact .inl rfl
    | some o => rw [PySem.W.hideAll_get as q m] at e; cases e
end
/-- an exception of class cls at e flies: its traceback at T; both are younger than g, both untracked -/
structure Fly (g : Heap) (H : Hp) (h : Heap) (e T : Addr) (cls : Value) : Prop where
  ex : ∃ oe vs oT ts, h.get? e = some oe ∧ oe.cls = cls ∧ oe.data = .fields vs ∧ vs[1]? = some (.ref T) ∧ T ≠ e ∧ h.get? T = some oT ∧ oT.data = .fields ts ∧ ts[3]? = some .none
  newE : g.get? e = none
  newT : g.get? T = none
  freeE : H e = none
  freeT : H T = none
/-- how an exception lies behind a call -/
def CX1 (P : Program) (w : World) : CXT := fun outer H s E e s' => ∃ a T cls H', e = .ref a ∧ s'.os = s.os ∧ AllBare s'.gens ∧ Un (frs outer) [] H H' s.heap s'.heap ∧ HOk P w H' s'.heap ∧ Fly s.heap H' s'.heap a T cls ∧ E cls none H'
section
variable {X : Cx} {pins : List (Addr × Obj)} {σ : St} {H H' : Hp} {s s' : Shared} {h' : Heap} {e T : Addr} {cls : Value}
/-- what of a heap may turn when an exception passes: e, T, the slots of the frames that run -/
structure Turned (X : Cx) (ch : List Addr) (h h' : Heap) : Prop where
  keep : ∀ b o, h.get? b = some o → b ∉ ch → b ∉ frs X.stack → h'.get? b = some o
  slot : ∀ b o, h.get? b = some o → b ∉ ch → b ∈ frs X.stack → ∃ sl, h'.get? b = some { o with slots := sl }
theorem Turned.of (I : Inv X pins σ H s) (st : (PySem.W.hideAll s.heap (as ++ frs X.stack)).StaysIn h') (up : s.heap.UpToSlots h') : Turned X as s.heap h' where
  keep := fun b o q n1 n2 => st b o (PySem.W.hideAll_get _ q (by simp [n1, n2]))
  slot := fun b o q _ m => by
    obtain ⟨_, o', ho, nf⟩ := I.stack.mem m
    rw [q] at ho; cases ho
    exact up b o q nf
theorem Turned.un (I : Inv X pins σ H s) (t : Turned X ch s.heap h') (hch : ∀ b ∈ ch, H b = none) : Un (frs X.stack) ch H H s.heap h' where
  keep := fun b o q n hf hc => t.keep b o q hc hf
  slot := fun b o q n hf hc => t.slot b o q hc hf
  free := fun _ _ _ n _ => n
  there := fun b o q hc => by
    by_cases m : b ∈ frs X.stack
    · obtain ⟨_, z⟩ := t.slot b o q hc m; exact ⟨_, z⟩
    · exact ⟨o, t.keep b o q hc m⟩
  tups := fun _ _ q => q
  frzs := fun _ _ _ q => q
  tbls := fun b ps q => ⟨#[], by rw [q]; simp⟩
theorem Turned.hok (I : Inv X pins σ H s) (t : Turned X ch s.heap h') (hch : ∀ b ∈ ch, H b = none) : HOk X.prog X.w H h' := fun b u q => by
  have tr : ∀ c v, H c = some v → c ∉ ch ∧ c ∉ frs X.stack := fun c v z => ⟨(fun m => by rw [hch c m] at z; cases z), (fun m => by rw [I.stkFree c m] at z; cases z)⟩
  refine (I.hok b u q).stay (fun c v hc r => ?_) (fun _ z => z) fun _ _ z => z
  rcases hc with z | z
  · subst z; exact t.keep c v r (tr c u q).1 (tr c u q).2
  · exact t.keep c v r (tr c _ z).1 (tr c _ z).2
/-- new records are none of this body's own -/
theorem Inv.newRec (I : Inv X pins σ H s) (hx : X.ex = []) (n : s.heap.get? b = none) : (b ∈ X.ex ∨ X.s₀.heap.get? b = none) ∧ b ≠ X.env.locals ∧ (∀ x c, X.env.cells.lookup x = some c → c ≠ b) ∧ ∀ p ∈ X.pn ++ pins, p.1 ≠ b := by
  refine ⟨.inr ?_, ?_, ?_, ?_⟩
  · cases q : X.s₀.heap.get? b with
    | none => rfl
    | some o =>
      obtain ⟨_, z⟩ := I.base.there b o q (by rw [hx]; simp)
      rw [n] at z; cases z
  · rintro rfl
    obtain ⟨m, ⟨o, _, _, ho, _⟩, _⟩ := I.loc
    rw [n] at ho; cases ho
  · rintro x c hc rfl
    obtain ⟨v, o, ho, _⟩ := I.cell x c hc
    rw [n] at ho; cases ho
  · rintro p hp rfl
    obtain ⟨z, _⟩ := I.pin p hp
    rw [n] at z; cases z
/-- the state behind a callee that raised, seen from the caller -/
theorem Inv.raised (I : Inv X pins σ H s) (ho : s'.os = s.os) (hg : AllBare s'.gens) (u : Un (frs X.stack) [] H H' s.heap s'.heap) (hok : HOk X.prog X.w H' s'.heap) : Inv X pins σ H' s' :=
  I.call' ho u hok hg (fun _ z => nomatch z)
/-- a traced exception, over a heap that hides it and the frames -/
theorem Fly.flying (J : Inv X pins σ H s) (hl : s.heap.FunFrames X.base l) (hsub : ∀ b ∈ frs l, b ∈ frs X.stack) (F : Fly g H s.heap e T cls) :
    ∃ a0, Heap.FlyingW (PySem.W.hideAll s.heap ([e, T] ++ frs X.stack)) l e cls a0 s.heap := by
  obtain ⟨oe, vs, oT, ts, e1, e2, e3, e4, e5, e6, e7, e8⟩ := F.ex
  have sz : 0 < vs.size := Nat.lt_of_le_of_lt (Nat.zero_le _) (Array.getElem?_eq_some_iff.mp e4).1
  refine ⟨vs[0], fun b o q => PySem.W.of_hideAll _ q, PySem.W.hideAll_none _ (by simp), PySem.W.funFrames_hide hl fun env he a ha => ?_, oe, vs, T, oT, ts, e1, ⟨e2, ?_⟩, e3, e4, PySem.W.hideAll_none _ (by simp), e5, e6, e7, e8⟩
  · have : a ∈ frs l := List.mem_filterMap.mpr ⟨env, he, ha⟩
    simp [hsub a this]
  · exact Array.getElem?_eq_getElem sz
/-- the new traceback is new for g too -/
theorem Fly.again (J : Inv X pins σ H s) (F : Fly g H s.heap e T cls) (hg : ∀ b, s.heap.get? b = none → g.get? b = none)
    (up : s.heap.UpToSlots h') (st : (PySem.W.hideAll s.heap ([e, T] ++ frs X.stack)).StaysIn h') (tr : h'.TracedW (PySem.W.hideAll s.heap ([e, T] ++ frs X.stack)) e cls a0) : ∃ T', Fly g H h' e T' cls := by
  obtain ⟨oe, vs, T', oT, ts, f1, ⟨f2, _⟩, f3, f4, f5, f6, f7, f8, f9⟩ := tr
  refine ⟨T', ⟨oe, vs, oT, ts, f1, f2, f3, f4, f6, f7, f8, f9⟩, F.newE, ?_, F.freeE, ?_⟩
  all_goals
    rcases hid_none f5 with z | z
    · first
        | exact hg _ z
        | exact J.hok.none_of z
    · simp only [List.mem_append, List.mem_cons, List.not_mem_nil, or_false] at z
      rcases z with (z | z) | z
      · exact absurd z f6
      · subst z
        first
          | exact F.newT
          | exact F.freeT
      · obtain ⟨_, o, ho, nf⟩ := J.stack.mem z
        obtain ⟨sl, q⟩ := up T' o ho nf
        rw [f7] at q
        cases q
        exact absurd f8 (nf _)
end
/-! ### passing a def's frame -/
section
variable {P : Program} {w : World} {K : PySem.W.Frag} {mg : Str → Option Value} {base : Heap} {N : List Str} {qual : Str} {scope : Scope} {f : Addr} {cd : Value} {A : Around} {outer : List Env} {s0 : Shared} {H0 : Hp} {E : XK}
  {pins : List (Addr × Obj)} {σ : St} {H H' : Hp} {s s' : Shared} {h' : Heap} {e T : Addr} {cls : Value}
theorem un_entry (hx : X.ex = []) (J : Inv X pins σ H s) (hst : X.stack = X.env :: X.outer) (hf : X.env.frame = some X.env.locals) (t : Turned X ch s.heap h') (hch : ∀ b ∈ ch, X.s₀.heap.get? b = none) :
    Un X.fs [] X.H₀ H X.s₀.heap h' := by
  have nb : ∀ b o, X.s₀.heap.get? b = some o → b ∉ ch := fun b o q m => by rw [hch b m] at q; cases q
  have mem : ∀ b, b ∈ frs X.stack ↔ b = X.env.locals ∨ b ∈ X.fs := fun b => by
    unfold Cx.fs frs
    rw [hst, List.filterMap_cons, hf]
    exact List.mem_cons
  have neL : ∀ b o, X.s₀.heap.get? b = some o → b ≠ X.env.locals := fun b o q => Nat.ne_of_lt (Nat.lt_of_lt_of_le (Heap.lt_size q) J.ok.above)
  have nx : ∀ b : Addr, b ∉ X.ex := fun b => by rw [hx]; simp
  refine ⟨fun b o q n hb _ => ?_, fun b o q n hb _ => ?_, fun b o q n _ => J.base.free b o q n (nx b), fun b o q _ => ?_, J.base.tups, J.base.frzs, J.base.tbls⟩
  · refine t.keep b o (J.base.keep b o q n hb (nx b)) (nb b o q) fun m => ?_
    exact ((mem b).mp m).elim (neL b o q) hb
  · obtain ⟨sl, z⟩ := J.base.slot b o q n hb (nx b)
    obtain ⟨sl', z'⟩ := t.slot b _ z (nb b o q) ((mem b).mpr (.inr hb))
    exact ⟨sl', z'⟩
  · obtain ⟨o', z⟩ := J.base.there b o q (nx b)
    by_cases m : b ∈ frs X.stack
    · obtain ⟨_, z'⟩ := t.slot b o' z (nb b o q) m; exact ⟨_, z'⟩
    · exact ⟨o', t.keep b o' z (nb b o q) m⟩
/-- an exception of a callee goes on through this def -/
theorem passes_fn : Passes (CX1 P w) (cxOf (CX1 P w) P w K mg base N qual scope f cd A outer s0 H0 E) E := by
  intro pins σ H s ev s' I h
  obtain ⟨a, T, cls, H', q0, ho, hg, u, hok, F, hE⟩ := h
  subst q0
  have J := I.raised ho hg u hok
  obtain ⟨a0, hfl⟩ := F.flying J J.stack (fun _ z => z)
  refine wpAny_leaves_onW (base := PySem.W.hideAll s'.heap ([a, T] ++ frs _)) J.ok.frames rfl hfl fun h2 hfl2 up => ?_
  have old : ∀ b, s.heap.get? b = none → s0.heap.get? b = none := fun b n => by
    cases q : s0.heap.get? b with
    | none => rfl
    | some o =>
      obtain ⟨_, z⟩ := I.base.there b o q (by show b ∉ ([] : List Addr); simp)
      rw [n] at z; cases z
  have old2 : ∀ b, s'.heap.get? b = none → s0.heap.get? b = none := fun b n => by
    cases q : s0.heap.get? b with
    | none => rfl
    | some o =>
      obtain ⟨_, z⟩ := J.base.there b o q (by show b ∉ ([] : List Addr); simp)
      rw [n] at z; cases z
  have t := Turned.of (as := [a, T]) J hfl2.1 up
  have F0 : Fly s0.heap H' s'.heap a T cls := ⟨F.ex, old _ F.newE, old _ F.newT, F.freeE, F.freeT⟩
  obtain ⟨T', F'⟩ := F0.again J old2 up hfl2.1 hfl2.2.2.2
  refine ⟨a, T', cls, H', rfl, J.os, J.bare, un_entry rfl J rfl rfl t ?_, t.hok J ?_, F', hE⟩
  · intro b hb
    rcases List.mem_cons.mp hb with rfl | hb
    · exact F0.newE
    · rcases List.mem_cons.mp hb with rfl | hb
      · exact F0.newT
      · cases hb
  · intro b hb
    rcases List.mem_cons.mp hb with rfl | hb
    · exact F.freeE
    · rcases List.mem_cons.mp hb with rfl | hb
      · exact F.freeT
      · cases hb
/-- an exception that is made here is what the body wants -/
def Lands (X : Cx) (E : XK) : Prop := ∀ (pins : List (Addr × Obj)) (σ : St) (H : Hp) (s : Shared) (h' : Heap) (e C : Addr) (args : List Value), Inv X pins σ H s → Heap.MadeExcOf s.heap h' e (.ref C) args → E (.ref C) none H → X.xe (.ref e) { s with heap := h' }
theorem lands_fn : Lands (cxOf (CX1 P w) P w K mg base N qual scope f cd A outer s0 H0 E) E := by
  intro pins σ H s h1 e C args I hm hE
  refine wpAny_leaves_madeW (base := PySem.W.hideAll s.heap ([] ++ frs _)) (h := s.heap) I.ok.frames rfl (fun b o q => PySem.W.of_hideAll _ q)
    (PySem.W.funFrames_hide I.stack fun env he a ha => by
      have : a ∈ frs _ := List.mem_filterMap.mpr ⟨env, he, ha⟩
      simpa using this) hm fun h2 t hfl _ _ up => ?_
  have up2 : s.heap.UpToSlots h2 := (Heap.UpToSlots.of_keeps hm.keeps).trans up
  have tt := Turned.of (as := []) I hfl.1 up2
  have old2 : ∀ b, s.heap.get? b = none → s0.heap.get? b = none := fun b n => by
    cases q : s0.heap.get? b with
    | none => rfl
    | some o =>
      obtain ⟨_, z⟩ := I.base.there b o q (by show b ∉ ([] : List Addr); simp)
      rw [n] at z; cases z
  obtain ⟨oe, vs, T', oT, ts, f1, ⟨f2, _⟩, f3, f4, f5, f6, f7, f8, f9⟩ := hfl.2.2.2
  have nT : s.heap.get? T' = none := by
    rcases hid_none f5 with z | z
    · exact z
    · have z' : T' ∈ frs (cxOf (CX1 P w) P w K mg base N qual scope f cd A outer s0 H0 E).stack := (List.mem_append.mp z).resolve_left (by simp)
      obtain ⟨_, o, ho, nf⟩ := I.stack.mem z'
      obtain ⟨sl, q⟩ := up2 T' o ho nf
      rw [f7] at q
      cases q
      exact absurd f8 (nf _)
  refine ⟨e, T', .ref C, H, rfl, I.os, I.bare, un_entry rfl I rfl rfl tt (fun _ z => nomatch z), tt.hok I (fun _ z => nomatch z), ⟨⟨oe, vs, oT, ts, f1, f2, f3, f4, f6, f7, f8, f9⟩, old2 _ hm.new, old2 _ nT, I.hok.none_of hm.new, I.hok.none_of nT⟩, hE⟩
end
/-! ### raise X(..) -/
/-- an error class of the text: its name, its address; the built-in base -/
structure ExcC (K : PySem.W.Frag) (mg : Str → Option Value) (x : Str) (C : Addr) : Prop where
  nm : mg x = some (.ref C)
  ex : PySem.W.excIn K C [.type "ValueError", .type "Exception", .type "BaseException", .type "object"] "ValueError.__new__" = true
theorem ExcC.own {K : PySem.W.Frag} {mg : Str → Option Value} {x : Str} {C : Addr} {h : Heap} (c : ExcC K mg x C) (X : K.In h) : OwnCls x C [.type "ValueError", .type "Exception", .type "BaseException", .type "object"] "ValueError.__new__" mg h := by
  refine ⟨c.nm, ?_⟩
  have q := c.ex
  unfold PySem.W.excIn at q
  split at q
  · rename_i dd cd sl ho
    split at q
    · rename_i C' bm k0 k1 k2 k3 n k5 hm hs
      simp only [Bool.and_eq_true, beq_iff_eq, Bool.not_eq_true'] at q
      obtain ⟨⟨⟨⟨⟨rfl, rfl⟩, hdel⟩, ht⟩, hok⟩, hni⟩ := q
      obtain ⟨nm, bs, mro, ns, qn, hd, sn, sub, ab, col, del⟩ := cd
      dsimp only at hm hdel hok hni
      subst hm hdel
      have hsl : sl = #[k0, k1, k2, k3, some (.builtin "ValueError.__new__"), k5] := by
        obtain ⟨l⟩ := sl
        simp only at hs
        rw [hs]
      subst hsl
      exact ⟨bm, ns, nm, qn, bs, hd, sn, sub, ab, col, dd, k0, k1, k2, k3, k5, _, X _ _ ho, .of_isNs (PySem.W.isNs_of_in X hok), PySem.W.nsMap_none_of_in X hok hni, PySem.W.tail_of_in X ht⟩
    · cases q
  · cases q
inductive tRaiseI (C : Addr) (E : XK) (vs : List V) (H1 : Hp) : Prop where
  | mk(_ : vs.length ≤ sizeLine)(_ : E (.ref C) none H1)
def tRaise (C : Addr) (E : XK) (t : TA) : TS := fun _ σ H => t σ H fun vs H1 => tRaiseI C E vs H1
theorem ps_raise {X : Cx} {x : Str} {C : Addr} {E : XK} {e₀ : Expr} {rest : List Expr} {t : TA} {np cpos pos : Pos} (hl : Lands X E) (hc : X.calm = true) (c : ExcC X.K X.mg x C) (hg : Gl X x) (ha : PA X (e₀ :: rest) t)
    (he : starEach (e₀ :: rest) X.env = (false, eval e₀ X.env) :: starEach rest X.env := by rfl) (hplain : (backTo cpos (starEach rest X.env)).any (·.1) = false := by rfl) (hd : (x == ("__debug__" : Str)) = false := by decide) :
    PS X (.Raise (some (.Call (.Name x np) (e₀ :: rest) [] cpos)) none pos) (tRaise C E t) := by
  intro pins s σ H D I h
  have O := c.own I.mod.kin
  obtain ⟨tl, N, nm, q, bs, hdct, sn, sub, ab, col, dd, k0, k1, k2, k3, k5, mN, hC, hN, hni, T⟩ := O.obj
  refine wpAny_Raise_call_subT (C := C) (nm := nm) (q := q) (N := N) (bs := bs) (bm := tl) (hdct := hdct) (sn := sn) (sub := sub) (ab := ab) (col := col) (dd := dd) (k0 := k0) (k1 := k1) (k2 := k2) (k3 := k3) (k5 := k5)
    PySem.F.excBase_ValueError (mN := mN) (T.hasType (by rfl)) (I.ok.hd hc) (by rw [he]; show (false || (backTo cpos (starEach rest X.env)).any (·.1)) = false; rw [hplain]; rfl) hni (ld_glob I hg c.nm ⟨rfl, ?_⟩ hd)
  have hp := ha cpos pins s σ H _ I h
  rw [he] at hp ⊢
  refine Calls.evalArgs_plain (wpAny_mono hp (fun us s2 h2 => ?_) fun _ _ y => y)
  obtain ⟨vs, H1, I1, r, hlen, hE⟩ := h2
  exact ⟨rfl, by rw [← r.length]; exact hlen, I1.bk _ _ hC, hN.keeps I1.bk, T.keeps I1.bk, fun h' e hm => hl _ _ _ _ _ _ _ _ I1 hm hE⟩
end L2

set_option Elab.async false
set_option linter.all false
set_option maxRecDepth 100000
/-! try .. except over the layer -/
namespace L2
open PySem PySem.Spec PyProof.Rows
/-! ### does the clause match -/
/-- the class at CB may stand in an except clause -/
structure Catch (K : PySem.W.Frag) (CB : Addr) : Prop where
  ty : PySem.W.typeIn K (.ref CB) = some (.type "type")
  cl : (PySem.W.clsIn K CB).isSome = true
  bx : PySem.W.mroIn K CB (.type "BaseException") = some true
theorem matches_own {K : PySem.W.Frag} {M : Model} {A : Around} {E : Value → Shared → Prop} {s : Shared} {e C CB : Addr} {b : Bool} {oe : Obj} {Q : Bool → Shared → Prop} (X : K.In s.heap) (c : Catch K CB)
    (he : s.heap.get? e = some oe) (hcls : oe.cls = .ref C) (hm : PySem.W.mroIn K C (.ref CB) = some b) (h : Q b s) : wpAny M A (excMatches (.ref e) (.ref CB)) Q E s := by
  obtain ⟨hp, g, d, tk, os⟩ := s
  have L1 := PySem.W.looks_typeIn (M := M) X c.ty
  have L2 := PySem.W.looks_mroIn (M := M) X c.bx
  have L3 := PySem.W.looks_mroIn (M := M) X hm
  have L0 : PySem.W.Looks M hp (typeOf (.ref e)) (.ref C) := hcls ▸ (PySem.W.Looks.ld he).andThen .now
  have L4 : PySem.W.Looks M hp (isType (.ref CB)) true := by
    have z := c.cl
    unfold PySem.W.clsIn at z
    split at z
    · rename_i c' d' cd' sl' ho
      intro A' Q' E' s' k q
      unfold isType loadHead
      exact wpAny_bind (wpAny_loadPart (k _ _ (X _ _ ho)) (wpAny_pure q))
    · cases z
  unfold excMatches isInstance isExcClass
  refine wpAny_bind (wpAny_bind (L1.at (wpAny_of_eq tc_notTuple ?_)))
  simp only [Bool.false_eq_true, if_false, List.forIn_cons, List.forIn_nil]
  refine wpAny_bind (wpAny_pure (wpAny_bind ?_))
  simp only [List.forIn_cons, List.forIn_nil]
  refine wpAny_bind (wpAny_bind (wpAny_bind (L4.at ?_)))
  simp only [if_true]
  refine L2.at ?_
  simp only [Bool.not_true, Bool.false_eq_true, if_false]
  refine wpAny_pure (wpAny_pure (wpAny_bind (L0.at (wpAny_bind (wpAny_bind (wpAny_bind (L3.at ?_)))))))
  cases b with
  | true => simp only [if_true]; exact wpAny_pure (wpAny_pure (wpAny_pure h))
  | false => simp only [Bool.false_eq_true, if_false]; exact wpAny_pure (wpAny_pure (wpAny_pure h))
end L2
namespace L2
open PySem PySem.Spec PyProof.Rows PySem.W PySem.Calls PySem.Builtin PySem.Builtin.ObjectAttr PySem.Builtin.Getset_descriptor
/-! ### isinstance of an exception -/
/-- an exception object that a name holds -/
def excO (a : Addr) (cls : Value) : HO := .ext fun h => ∃ o vs, h.get? a = some o ∧ o.cls = cls ∧ o.data = .fields vs
/-- what of the text an error class must have so that isinstance can ask an exception of it -/
structure ExcI (K : Frag) (D : Addr) : Prop where
  ga : findIn K (.ref D) "__getattribute__" = some (some (.builtin "BaseException.__getattribute__"))
  gk : findIn K (.ref D) "__getattr__" = some none
  cl : (clsIn K D).isSome = true
  at_ : findIn K (.ref D) "__class__" = some (some (.builtin "object.__class__"))
  gt : specialIn K (.builtin "object.__class__") "__get__" = some (some (.builtin "getset_descriptor.__get__"))
  tk : takesIn K (.builtin "object.__class__") = some true
  mo : mroIn K D (.type "object") = some true
  mx : mroIn K D (.type "BaseException") = some true
section
variable {prog : Program} {w : World} {A : Around} {E : Value → Shared → Prop} {s : Shared} {K : Frag} {x D : Addr}
theorem exc_find (X : K.In h) (c : ExcI K D) : Looks M h (find (.ref x) (.ref D) "__class__") (.bind (.builtin "getset_descriptor.__get__") (.builtin "object.__class__")) := by
  have L1 := looks_findIn (M := M) X c.at_
  have L2 : Looks M h (getOf (some (.builtin "object.__class__"))) (some (.builtin "getset_descriptor.__get__")) := looks_specialIn X c.gt
  have L3 := looks_takesIn (M := M) X c.tk
  exact L1.andThen (L2.andThen ((show Looks M h (dataDescriptor? (some (.builtin "object.__class__")) (some (.builtin "getset_descriptor.__get__"))) (some (.builtin "getset_descriptor.__get__", .builtin "object.__class__")) from L3.andThen .now).andThen (Looks.tag .now)))
theorem exc_getset (X : K.In s.heap) (hx : s.heap.get? x = some o) (hc : o.cls = .ref D) (c : ExcI K D) (q : R (.ok (.ret (.ref D))) s) :
    codeAny (model prog w) A (.call (.builtin "getset_descriptor.__get__") ⟨[.builtin "object.__class__", .ref x, .ref D], []⟩) R s := by
  obtain ⟨hh, g, d, t, os⟩ := s
  have L0 : Looks (model prog w) hh (typeOf (.ref x)) (.ref D) := hc ▸ (Looks.ld hx).andThen .now
  have Lm := looks_mroIn (M := model prog w) X c.mo
  refine codeAny_call_builtin KF.slot_gs.plain KF.entry_gs (KF.slot_gs.check _ _ _ _ _ _ _ _ KF.type_class (KF.args_gs _ _ _) ?_)
  unfold Builtin.«getset_descriptor.__get__» descrGet
  rw [dga_obj]
  refine wpAny_bind (wpAny_pure ?_)
  unfold descrGetter descrCheckInstance descrNameAndClass isInstance
  simp only [KF.owner_class]
  repeat lk
  refine ⟨Code.quiet_builtin _ (by decide +kernel), codeAny_builtin KF.entry_class ?_⟩
  unfold Builtin.«object.__class__» shownTypeOf
  repeat lk
  exact q
theorem exc_ga (X : K.In s.heap) (hx : s.heap.get? x = some o) (hc : o.cls = .ref D) (c : ExcI K D) (q : Q (.done (.ret (.ref D))) s) :
    wpAny (model prog w) A (Builtin.«object.__getattribute__» ⟨[.ref x, .str "__class__" tk], []⟩) Q E s := by
  have L0 : Looks (model prog w) s.heap (typeOf (.ref x)) (.ref D) := hc ▸ (Looks.ld hx).andThen .now
  have Lf := exc_find (x := x) (M := model prog w) X c
  have e1 : slotArgs "__getattribute__" 1 ⟨[.ref x, .str "__class__" tk], []⟩ = pure (.ref x, [.str "__class__" tk]) := rfl
  unfold Builtin.«object.__getattribute__»
  rw [e1]
  refine wpAny_bind (wpAny_pure ?_)
  refine wpAny_bind (show wpAny _ _ (attrName (.str "__class__" tk)) _ _ _ from wpAny_pure ?_)
  obtain ⟨hh, g, d, t, os⟩ := s
  refine wpAny_bind (L0.at (wpAny_bind (Lf.at ?_)))
  show wpAny _ _ (bindTo _ _ _ _) _ _ _
  unfold bindTo
  dsimp only
  refine wpAny_bind (wpAny_holding (wpAny_call (exc_getset X hx hc c ?_)))
  exact wpAny_pure q
theorem exc_classAttr (X : K.In s.heap) (hx : s.heap.get? x = some o) (hc : o.cls = .ref D) (c : ExcI K D) (q : Q (some (.ref D)) { s with toks := s.toks + 1 }) :
    wpAny (model prog w) A (getAttr? (.ref x) "__class__") Q E s := by
  obtain ⟨hh, g, d, t, os⟩ := s
  have L0 : Looks (model prog w) hh (typeOf (.ref x)) (.ref D) := hc ▸ (Looks.ld hx).andThen .now
  have La := looks_findIn (M := model prog w) X c.ga
  have Lk := looks_findIn (M := model prog w) X c.gk
  have Lx := looks_mroIn (M := model prog w) X c.mx
  have hb := PySem.F.attr_ValueError.ga.bind (.ref x)
  have hne0 : (Value.builtin "BaseException.__getattribute__" == Value.builtin "object.__getattribute__") = false := by decide +kernel
  have hne : (onTheHeap (Value.ref D) && Value.builtin "BaseException.__getattribute__" == Value.builtin "object.__getattribute__") = false := by rw [hne0]; rfl
  unfold getAttr? getAttrBy? getAttrBy
  refine wpAny_bind (wpAny_mkText (wpAny_bind (wpAny_attempt (wpAny_holding (wpAny_bind (L0.at (wpAny_bind (La.at ?_))))))))
  dsimp only
  rw [if_neg (by rw [hne]; decide)]
  unfold getAttrByItsOwn
  refine wpAny_bind (show wpAny _ _ (typeLookup (.ref D) "__getattr__") _ _ _ from Lk.at ?_)
  refine wpAny_bind (wpAny_attempt (wpAny_holding ?_))
  show wpAny _ _ (boundAndCalled _ _ _) _ _ _
  unfold boundAndCalled
  rw [hb]
  refine wpAny_bind (wpAny_pure (wpAny_call ?_))
  refine codeAny_call_builtin PySem.F.attr_ValueError.ga.plain PySem.F.entry_bexc_ga ?_
  have hk : builtinKind "BaseException.__getattribute__" = some .slot := by decide +kernel
  have hsplit : splitId "BaseException.__getattribute__" = some ("BaseException", "__getattribute__") := by decide +kernel
  have ha := PySem.F.args_bexc_ga (.ref x) (.str "__class__" t)
  simp only [checkBuiltinCall, hk, hsplit, List.cons_append, List.nil_append]
  unfold isInstance
  repeat (first | with_reducible refine exc_ga X hx hc c ?_ | lk)
  exact q
theorem kitx_exc (c : ExcI K D) : KitX K (.ref x) (.ref D) (fun h => ∃ o, h.get? x = some o ∧ o.cls = .ref D) where
  ty := fun M h _ p => by obtain ⟨o, hx, hc⟩ := p; exact hc ▸ (Looks.ld hx).andThen .now
  it := fun _ _ X _ => by
    have z := c.cl
    unfold clsIn at z
    split at z
    · rename_i ho
      intro A' Q' E' s' k q
      unfold isType loadHead
      exact wpAny_bind (wpAny_loadPart (k _ _ (X _ _ ho)) (wpAny_pure q))
    · cases z
  ne := fun h tp dd its n sl X htp => by
    refine Bool.eq_false_iff.mpr fun q => ?_
    have e : D = tp := Value.ref.inj (beq_iff_eq.mp q)
    subst e
    have z := c.cl
    unfold clsIn at z
    split at z
    · rename_i ho
      have z := (X _ _ ho).symm.trans htp
      cases z
    · cases z
  ca := fun X p q => by obtain ⟨o, hx, hc⟩ := p; exact exc_classAttr X hx hc c q
end
/-- the type of a value; of an exception that a name holds too -/
inductive TyX (K : Frag) (H : Hp) (x : V) (t : Value) : Prop where
  | of (h : TyOf K H x t) : TyX K H x t
  | exc {a D : Addr} (ex : x = .ref a) (et : t = .ref D) (h : H a = some (excO a (.ref D))) (c : ExcI K D) : TyX K H x t
def clsV : V → Value
  | .ty n => .type n
  | .ref a => .ref a
  | _ => .none
/-- isinstance(x, c), c one class -/
inductive rIsI (K : Frag) (xs : List V) (H : Hp) (Q : VK) : Prop where
  | mk(x)(c)(t)(b)(_ : xs = [x, c])(_ : TyX K H x t)(_ : ((∃ n, c = .ty n) ∨ ∃ a, c = .ref a))(_ : kitOne K t (clsV c) = some b)(_ : Q (.bl b) H)
theorem call_isi : CallR X (.builtin "isinstance") (rIsI X.K) := by
  intro pins s σ H xs us Q I r h
  obtain ⟨x, c, t, b, rfl, ty, hc, hk, q⟩ := h
  obtain ⟨u, w', rfl, r1, r2⟩ := vals2 r
  have e : w' = clsV c := by
    rcases hc with ⟨n, rfl⟩ | ⟨a, rfl⟩
    · exact r2
    · exact r2
  subst e
  cases ty with
  | of ty => exact isinst_ok I r1 ty hk fun tk => ⟨.bl b, H, I.tok tk, rfl, q⟩
  | @exc a D ex et ha cl =>
    subst ex et
    cases (show u = Value.ref a from r1)
    obtain ⟨⟨o, vs, ho, hcl, _⟩, _⟩ := (show ObjOk X.prog X.w H s.heap a (excO a (.ref D)) from I.hok a _ ha)
    exact kia_one (kitx_exc cl) I.kIn ⟨o, ho, hcl⟩ hk (fun z => nomatch z) fun tk => ⟨.bl b, H, I.tok tk, rfl, q⟩
end L2
namespace L2
open PySem PySem.Spec PyProof.Rows
/-! ### names that go -/
section
variable {X : Cx} {pins : List (Addr × Obj)} {σ : St} {H : Hp} {s : Shared}
theorem unbind_ok (I : Inv X pins σ H s) (hN : X.N.Nodup) (hi : X.N[i]? = some x) (hk : X.env.scope.names.lookup x = some .local) (hlk : ∀ v, X.lk[i]? ≠ some (some v))
    (h : ∀ s', Inv X pins (σ.set i none) H s' → Q () s') : wpAny M A (do bindName X.env x .none; unbindBehindTheSuite X.env x pos) Q E s := by
  obtain ⟨m, hn, hl⟩ := id I.loc
  have hcls : (X.env.scope.kind == .class || (X.env.scope.kind == .module && X.env.locals != X.env.globals)) = false := by rw [I.ok.kind]; rfl
  have hiσ : i < σ.length := by rw [I.len]; exact (List.getElem?_eq_some_iff.mp hi).1
  have cne := I.cne
  refine wpAny_nameGoes_keeps hk hn hcls fun h' v hn' hs => ?_
  obtain ⟨oL, _, _, hoL, _⟩ := id hn
  have ne0 : ∀ b o, X.s₀.heap.get? b = some o → b ≠ X.env.locals := fun b o q => Nat.ne_of_lt (Nat.lt_of_lt_of_le (Heap.lt_size q) I.ok.above)
  refine h _ ⟨I.ok, I.os, I.bare, ⟨fun b o q n hb hx => (hs.2 b (ne0 b o q)).trans (I.base.keep b o q n hb hx), fun b o q n hb hx => ?_, I.base.free, fun b o q hx => ?_, I.base.tups, I.base.frzs, I.base.tbls⟩,
    ⟨_, hn', fun j y v' e1 e2 e3 => ?_⟩, fun y c e => ?_, I.free, I.freeC, fun p hp => ?_, fun b ob e => ?_, by simpa using I.len⟩
  · obtain ⟨sl, e1⟩ := I.base.slot b o q n hb hx
    exact ⟨sl, (hs.2 b (ne0 b o q)).trans e1⟩
  · obtain ⟨o', e1⟩ := I.base.there b o q hx
    exact ⟨o', (hs.2 b (ne0 b o q)).trans e1⟩
  · by_cases hj : j = i
    · subst hj
      rcases e2 with e2 | e2
      · rw [List.getElem?_set_self hiσ] at e2; cases e2
      · exact absurd e2 (hlk _)
    · have e2' : σ[j]? = some (some v') ∨ X.lk[j]? = some (some v') := e2.imp_left fun z => by rw [List.getElem?_set_ne (Ne.symm hj)] at z; exact z
      obtain ⟨u', r', q⟩ := hl j y v' e1 e2' e3
      refine ⟨u', r', ?_⟩
      rcases q with ⟨k, e⟩ | ⟨k, c, e, z⟩
      · refine .inl ⟨k, ?_⟩
        have : y ≠ x := fun e => hj (nodup_ix hN e1 (e ▸ hi))
        simp [this, e]
      · exact .inr ⟨k, c, e, z.sameBut hs (cne y c e)⟩
  · obtain ⟨w', z⟩ := I.cell y c e
    exact ⟨w', z.sameBut hs (cne y c e)⟩
  · obtain ⟨e, n, ne, nf, d⟩ := I.pin p hp
    exact ⟨(hs.2 p.1 ne).trans e, n, ne, nf, d⟩
  · refine (I.hok b ob e).stay (fun c w' hc q => (hs.2 c ?_).trans q) (fun _ q => q) fun _ _ q => q
    rintro rfl
    rcases hc with rfl | hc
    · rw [I.free] at e; cases e
    · rw [I.free] at hc; cases hc
/-- an untracked record of ours is tracked from now on -/
theorem Inv.track (I : Inv X pins σ H s) (n : H a = none) (hch : (a ∈ X.ex ∨ X.s₀.heap.get? a = none) ∧ a ≠ X.env.locals ∧ (∀ x c, X.env.cells.lookup x = some c → c ≠ a) ∧ ∀ p ∈ X.pn ++ pins, p.1 ≠ a)
    (hok : ∀ H', ObjOk X.prog X.w H' s.heap a o) : Inv X pins σ (upd H a o) s := by
  have nt : ∀ b u, H b = some u → b ≠ a := fun b u q z => by subst z; rw [n] at q; cases q
  have J := I.stepN (h' := s.heap) (H' := upd H a o) (g' := s.gens) (d' := s.drawn) (t' := s.toks) (ch := [a]) (fun b hb => by rw [List.mem_singleton.mp hb]; exact hch) (fun _ _ _ _ _ q _ => q) (fun _ ob _ _ _ q _ => ⟨ob.slots, q⟩)
    (fun b _ hb _ q => by rw [upd_ne (fun z => hb (by simp [z]))]; exact q) (fun _ ob _ q => ⟨ob, q⟩) (fun b xs q => by rw [upd_ne (nt b _ q)]; exact q) (fun b u xs q => by rw [upd_ne (nt b _ q)]; exact q)
    (fun b ps q => ⟨#[], by rw [upd_ne (nt b _ q), q]; simp⟩) (fun _ q => q) (fun b u q => ?_) I.bare
  · exact J
  · by_cases hb : b = a
    · subst hb; rw [upd_same] at q; cases q; exact hok _
    · rw [upd_ne hb] at q
      exact (I.hok b u q).stay (fun c v _ z => z) (fun c z => by rw [upd_ne (nt c _ z)]; exact z) fun c xs z => by rw [upd_ne (nt c _ z)]; exact z
end
end L2

set_option Elab.async false
set_option linter.all false
set_option maxRecDepth 100000
/-! try .. except C [as n] over the layer -/
namespace L2
open PySem PySem.Spec PyProof.Rows
/-- slots that are forgotten -/
def fgt : List Nat → St → St
  | [], σ => σ
  | i :: r, σ => fgt r (σ.set i none)
theorem fgt_length : ∀ (as : List Nat) (σ : St), (fgt as σ).length = σ.length
  | [], _ => rfl
  | i :: r, σ => by rw [fgt, fgt_length r, List.length_set]
theorem fgt_get : ∀ (as : List Nat) {σ : St} {i : Nat} {v : V}, (fgt as σ)[i]? = some (some v) → σ[i]? = some (some v) ∧ i ∉ as
  | [], _, _, _, h => ⟨h, by simp⟩
  | j :: r, σ, i, v, h => by
    obtain ⟨h1, h2⟩ := fgt_get r h
    by_cases e : i = j
    · subst e
      rw [List.getElem?_set] at h1
      simp at h1
    · rw [List.getElem?_set_ne (Ne.symm e)] at h1
      exact ⟨h1, by simp [e, h2]⟩
/-- within a try: another wish, locked locals, the pins of all states -/
abbrev Cx.tried (X : Cx) (E : Value → Shared → Prop) (lk : St) (pn : List (Addr × Obj)) : Cx := { X with xe := E, lk := lk, pn := pn }
/-- within an except suite: nothing may leave it -/
abbrev Cx.hand (X : Cx) (e : Addr) : Cx := { X with A := X.A.mark (some (.ref e)), calm := false, xe := fun _ _ => False }
section
variable {X : Cx} {pins pins' : List (Addr × Obj)} {σ σ' lk : St} {H : Hp} {s : Shared} {E : Value → Shared → Prop} {e : Addr}
theorem Cx.Ok.tried (ok : X.Ok) (E : Value → Shared → Prop) (lk : St) (pn : List (Addr × Obj)) : (X.tried E lk pn).Ok :=
  ⟨ok.mod, ok.kind, ok.glob, ok.blt, ok.above, ok.inj, ok.has, ok.cab, ok.hd, ok.frames, ok.stk, ok.exf, ok.bs, ok.bsz, ok.noex, ok.exfs, ok.funs, ok.frf⟩
theorem Cx.Ok.untried {pn : List (Addr × Obj)} (ok : (X.tried E lk pn).Ok) : X.Ok :=
  ⟨ok.mod, ok.kind, ok.glob, ok.blt, ok.above, ok.inj, ok.has, ok.cab, ok.hd, ok.frames, ok.stk, ok.exf, ok.bs, ok.bsz, ok.noex, ok.exfs, ok.funs, ok.frf⟩
theorem Cx.Ok.hand (ok : X.Ok) (e : Addr) : (X.hand e).Ok :=
  ⟨ok.mod, ok.kind, ok.glob, ok.blt, ok.above, ok.inj, ok.has, ok.cab, fun z => (nomatch z), ok.frames, ok.stk, ok.exf, ok.bs, ok.bsz, ok.noex, ok.exfs, ok.funs, ok.frf⟩
theorem Inv.tried (I : Inv X pins σ H s) (E : Value → Shared → Prop) (hlk : ∀ (i : Nat) v, lk[i]? = some (some v) → σ[i]? = some (some v)) : Inv (X.tried E lk (X.pn ++ pins)) [] σ H s := by
  refine ⟨I.ok.tried _ _ _, I.os, I.bare, I.base, ?_, I.cell, I.free, I.freeC, fun p hp => I.pin p (by simpa using hp), I.hok, I.len⟩
  obtain ⟨m, hn, hl⟩ := I.loc
  exact ⟨m, hn, fun i x v e1 e2 e3 => hl i x v e1 (.inl (e2.elim id (hlk i v))) e3⟩
theorem Inv.untried (I : Inv (X.tried E lk (X.pn ++ pins)) pins' σ' H s) (hX : X.lk = []) (hl : lk.length = X.N.length) : Inv X pins lk H s := by
  refine ⟨I.ok.untried, I.os, I.bare, I.base, ?_, I.cell, I.free, I.freeC, fun p hp => I.pin p (List.mem_append_left _ hp), I.hok, hl⟩
  obtain ⟨m, hn, hl⟩ := I.loc
  exact ⟨m, hn, fun i x v e1 e2 e3 => hl i x v e1 (.inr (e2.elim id fun z => by rw [hX] at z; simp at z)) e3⟩
theorem Inv.untriedN (I : Inv (X.tried E lk (X.pn ++ pins)) [] σ' H s) (hX : X.lk = []) : Inv X pins σ' H s := by
  refine ⟨I.ok.untried, I.os, I.bare, I.base, ?_, I.cell, I.free, I.freeC, fun p hp => I.pin p (by simpa using hp), I.hok, I.len⟩
  obtain ⟨m, hn, hl⟩ := I.loc
  exact ⟨m, hn, fun i x v e1 e2 e3 => hl i x v e1 (e2.elim .inl fun z => by rw [hX] at z; simp at z) e3⟩
theorem Inv.hand (I : Inv X pins σ H s) (e : Addr) : Inv (X.hand e) pins σ H s := ⟨I.ok.hand e, I.os, I.bare, I.base, I.loc, I.cell, I.free, I.freeC, I.pin, I.hok, I.len⟩
theorem Inv.unhand (ok : X.Ok) (I : Inv (X.hand e) pins σ H s) : Inv X pins σ H s := ⟨ok, I.os, I.bare, I.base, I.loc, I.cell, I.free, I.freeC, I.pin, I.hok, I.len⟩
theorem SP.unhand (ok : X.Ok) (h : SP (X.hand e) pins D f s') : SP X pins D f s' := by
  cases f with
  | next => obtain ⟨a, b, c, d⟩ := h; exact ⟨a, b, c.unhand ok, d⟩
  | brk => obtain ⟨a, b, c, d⟩ := h; exact ⟨a, b, c.unhand ok, d⟩
  | cont => obtain ⟨a, b, c, d⟩ := h; exact ⟨a, b, c.unhand ok, d⟩
  | ret u => obtain ⟨v, a, b, c, r, d⟩ := h; exact ⟨v, a, b, c.unhand ok, r, d⟩
theorem SP.untried (hX : X.lk = []) (h : SP (X.tried E lk (X.pn ++ pins)) [] D f s') : SP X pins D f s' := by
  cases f with
  | next => obtain ⟨a, b, c, d⟩ := h; exact ⟨a, b, c.untriedN hX, d⟩
  | brk => obtain ⟨a, b, c, d⟩ := h; exact ⟨a, b, c.untriedN hX, d⟩
  | cont => obtain ⟨a, b, c, d⟩ := h; exact ⟨a, b, c.untriedN hX, d⟩
  | ret u => obtain ⟨v, a, b, c, r, d⟩ := h; exact ⟨v, a, b, c.untriedN hX, r, d⟩
end
/-- a def's body: no locks, its own frame on top -/
structure Body (X : Cx) : Prop where
  ex : X.ex = []
  lk : X.lk = []
  st : X.stack = X.env :: X.outer
  fr : X.env.frame = some X.env.locals
theorem body_cxOf {CX : CXT} {P : Program} {w : World} {K : PySem.W.Frag} {mg : Str → Option Value} {base : Heap} {N : List Str} {qual : Str} {scope : Scope} {f : Addr} {cd : Value} {A : Around} {outer : List Env} {s0 : Shared} {H0 : Hp} {E : XK} :
    Body (cxOf CX P w K mg base N qual scope f cd A outer s0 H0 E) := ⟨rfl, rfl, rfl, rfl⟩
section
variable {X : Cx} {pins : List (Addr × Obj)} {σ : St} {H : Hp} {s : Shared} {E : Value → Shared → Prop}
/-- an exception from a callee lands in the clauses: its object stays untracked; k goes on with the clauses' own walk -/
theorem land (B : Body X) (hlk : lk.length = X.N.length)
    (I : Inv (X.tried E' lk (X.pn ++ pins)) pins' σ' H1 s1) (h : CX1 X.prog X.w X.stack H1 s1 EX ev s2)
    (k : ∀ a T cls H2 s3, ev = .ref a → EX cls none H2 → Inv X pins lk H2 s3 → Fly s1.heap H2 s3.heap a T cls → ((a ∈ X.ex ∨ X.s₀.heap.get? a = none) ∧ a ≠ X.env.locals ∧ (∀ x c, X.env.cells.lookup x = some c → c ≠ a) ∧ ∀ p ∈ X.pn ++ pins, p.1 ≠ a) →
      ((T ∈ X.ex ∨ X.s₀.heap.get? T = none) ∧ T ≠ X.env.locals ∧ (∀ x c, X.env.cells.lookup x = some c → c ≠ T) ∧ ∀ p ∈ X.pn ++ pins, p.1 ≠ T) →
      wpAny (model X.prog X.w) X.A (handleBy (.ref a) X.env hs) Q E s3) :
    wpAny (model X.prog X.w) X.A (noteFrame ev X.env) (fun _ s₂ => wpAny (model X.prog X.w) X.A (setFlight ev none) (fun _ s₃ => wpAny (model X.prog X.w) X.A (handleBy ev X.env hs) Q E s₃) E s₂) E s2 := by
  obtain ⟨a, T, cls, H2, q0, ho, hg, u, hok, F, hE⟩ := h
  subst q0
  have J := I.raised ho hg u hok
  obtain ⟨a0, hfl⟩ := F.flying J J.stack (fun _ z => z)
  have hfl' : Heap.FlyingW (PySem.W.hideAll s2.heap ([a, T] ++ frs X.stack)) (X.env :: X.outer) a cls a0 s2.heap := by rw [← B.st]; exact hfl
  refine wpAny_looks_onW (base := PySem.W.hideAll s2.heap ([a, T] ++ frs X.stack)) (by rw [J.ok.frames]; exact congrArg some B.st) B.fr hfl' fun h3 held up1 => ?_
  refine wpAny_landsW held fun h4 hfl4 up2 => ?_
  have up : s2.heap.UpToSlots h4 := up1.trans up2
  have t := Turned.of (as := [a, T]) J hfl4.1 up
  have frE : ∀ b ∈ [a, T], H2 b = none := by
    intro b hb
    rcases List.mem_cons.mp hb with rfl | hb
    · exact F.freeE
    · rcases List.mem_cons.mp hb with rfl | hb
      · exact F.freeT
      · cases hb
  have rcs : ∀ b ∈ [a, T], (b ∈ X.ex ∨ X.s₀.heap.get? b = none) ∧ b ≠ X.env.locals ∧ (∀ x c, X.env.cells.lookup x = some c → c ≠ b) ∧ ∀ p ∈ (X.pn ++ pins) ++ pins', p.1 ≠ b := by
    intro b hb
    rcases List.mem_cons.mp hb with rfl | hb
    · exact I.newRec B.ex F.newE
    · rcases List.mem_cons.mp hb with rfl | hb
      · exact I.newRec B.ex F.newT
      · cases hb
  have J4 : Inv (X.tried E' lk (X.pn ++ pins)) pins' σ' H2 { s2 with heap := h4 } := J.callN' (s' := { s2 with heap := h4 }) (ch := [a, T]) rfl (t.un J frE) (t.hok J frE) J.bare rcs
  have old : ∀ b, s2.heap.get? b = none → s1.heap.get? b = none := fun b n => by
    cases q : s1.heap.get? b with
    | none => rfl
    | some o =>
      obtain ⟨_, z⟩ := u.there b o q (by simp)
      rw [n] at z; cases z
  obtain ⟨T', F'⟩ := F.again J old up hfl4.1 hfl4.2.2.2
  have sub : ∀ {b : Addr}, ((b ∈ X.ex ∨ X.s₀.heap.get? b = none) ∧ b ≠ X.env.locals ∧ (∀ x c, X.env.cells.lookup x = some c → c ≠ b) ∧ ∀ p ∈ (X.pn ++ pins) ++ pins', p.1 ≠ b) →
      (b ∈ X.ex ∨ X.s₀.heap.get? b = none) ∧ b ≠ X.env.locals ∧ (∀ x c, X.env.cells.lookup x = some c → c ≠ b) ∧ ∀ p ∈ X.pn ++ pins, p.1 ≠ b := fun z => ⟨z.1, z.2.1, z.2.2.1, fun p hp => z.2.2.2 p (List.mem_append_left _ hp)⟩
  exact k a T' cls H2 _ rfl hE (J4.untried B.lk hlk) F' (sub (rcs a (by simp))) (sub (I.newRec B.ex F'.newT))
/-- the flight mark is taken off once more -/
theorem unflight (I : Inv X pins σ H s) (F : Fly g H s.heap a T cls) (hg : ∀ b, s.heap.get? b = none → g.get? b = none)
    (ha : (a ∈ X.ex ∨ X.s₀.heap.get? a = none) ∧ a ≠ X.env.locals ∧ (∀ x c, X.env.cells.lookup x = some c → c ≠ a) ∧ ∀ p ∈ X.pn ++ pins, p.1 ≠ a)
    (hT : (T ∈ X.ex ∨ X.s₀.heap.get? T = none) ∧ T ≠ X.env.locals ∧ (∀ x c, X.env.cells.lookup x = some c → c ≠ T) ∧ ∀ p ∈ X.pn ++ pins, p.1 ≠ T)
    (k : ∀ s', Inv X pins σ H s' → (∃ T', Fly g H s'.heap a T' cls) → Q () s') : wpAny (model X.prog X.w) A (setFlight (.ref a) none) Q E s := by
  obtain ⟨a0, hfl⟩ := F.flying I I.stack (fun _ z => z)
  refine lands_againW hfl fun h4 hfl4 up => ?_
  have t := Turned.of (as := [a, T]) I hfl4.1 up
  have frE : ∀ b ∈ [a, T], H b = none := by
    intro b hb
    rcases List.mem_cons.mp hb with rfl | hb
    · exact F.freeE
    · rcases List.mem_cons.mp hb with rfl | hb
      · exact F.freeT
      · cases hb
  have J4 : Inv X pins σ H { s with heap := h4 } := I.callN' (s' := { s with heap := h4 }) (ch := [a, T]) rfl (t.un I frE) (t.hok I frE) I.bare fun b hb => by
    rcases List.mem_cons.mp hb with rfl | hb
    · exact ha
    · rcases List.mem_cons.mp hb with rfl | hb
      · exact hT
      · cases hb
  exact k _ J4 (F.again I hg up hfl4.1 hfl4.2.2.2)
end
end L2

set_option Elab.async false
set_option linter.all false
set_option maxRecDepth 100000
namespace L2
open PySem PySem.Spec PyProof.Rows
/-- what the clause «except C as n» wants of an exception of the body -/
def xAs (K : PySem.W.Frag) (as : List Nat) (i : Nat) (CB : Addr) (th : TS) (D : Ends) (σ : St) : XK := fun cls _ H' => ∃ C, cls = .ref C ∧ PySem.W.mroIn K C (.ref CB) = some true ∧
  ∀ a, H' a = none → th { nx := fun σ' H'' => D.nx (σ'.set i none) H'', rt := D.rt, bk := fun σ' H'' => D.bk (σ'.set i none) H'', ct := fun σ' H'' => D.ct (σ'.set i none) H'' } ((fgt as σ).set i (some (.ref a))) (upd H' a (excO a cls))
def tTryAs (K : PySem.W.Frag) (as : List Nat) (i : Nat) (CB : Addr) (tb : XK → TS) (th : TS) : TS := fun D σ H => tb (xAs K as i CB th D σ) D σ H
/-- the same without a name -/
def xCl (K : PySem.W.Frag) (as : List Nat) (CB : Addr) (th : TS) (D : Ends) (σ : St) : XK := fun cls _ H' => ∃ C, cls = .ref C ∧ PySem.W.mroIn K C (.ref CB) = some true ∧ th D (fgt as σ) H'
def tTry (K : PySem.W.Frag) (as : List Nat) (CB : Addr) (tb : XK → TS) (th : TS) : TS := fun D σ H => tb (xCl K as CB th D σ) D σ H
section
variable {X : Cx} {as : List Nat} {i : Nat} {CB : Addr} {tb : XK → TS} {th : TS} {body suite : List Stmt} {b₀ : Stmt} {n cx : Str} {p hpos pos : Pos}
theorem ps_tryAs (B : Body X) (hN : X.N.Nodup) (hi : X.N[i]? = some n) (hk : X.env.scope.names.lookup n = some .local) (c : Catch X.K CB) (hg : Gl X cx) (hm : X.mg cx = some (.ref CB))
    (hb : ∀ (E' : Value → Shared → Prop) (lk : St) (pn : List (Addr × Obj)) (EX : XK), (∀ j ∈ as, ∀ v, lk[j]? ≠ some (some v)) → PassesOwn (model X.prog X.w) X.A X.env E' → Passes (CX1 X.prog X.w) (X.tried E' lk pn) EX → PSs (X.tried E' lk pn) body (tb EX))
    (hh : ∀ a, PSs (X.hand a) (b₀ :: suite) th) (hd : (cx == ("__debug__" : Str)) = false := by decide) :
    PS X (.Try body [.ExceptHandler (some (.Name cx p)) (some n) (b₀ :: suite) hpos] [] [] pos) (tTryAs X.K as i CB tb th) := by
  intro pins s σ H D I h
  refine wpAny_Try_except ?_
  have lkl : (fgt as σ).length = X.N.length := by rw [fgt_length]; exact I.len
  have I' := I.tried (lk := fgt as σ) (fun ev s₁ => wpAny (model X.prog X.w) X.A (noteFrame ev X.env) (fun _ s₂ => wpAny (model X.prog X.w) X.A (setFlight ev none)
    (fun _ s₃ => wpAny (model X.prog X.w) X.A (handleBy ev X.env [.ExceptHandler (some (.Name cx p)) (some n) (b₀ :: suite) hpos]) (SP X pins D) X.xe s₃) X.xe s₂) X.xe s₁) fun i v z => (fgt_get as z).1
  refine wpAny_mono (hb _ _ _ (xAs X.K as i CB th D σ) (fun j hj v z => (fgt_get as z).2 hj) PassesOwn.looking (fun pins' σ' H1 s1 ev s2 J hcx => ?_) [] s σ H D I' h) (fun f s1 h1 => ?_) fun _ _ z => z
  · refine land B lkl J hcx fun a T cls H2 s3 _ hE J3 F ha hT => ?_
    obtain ⟨C, rfl, hmro, hth⟩ := hE
    obtain ⟨oe, vs, oT, ts, e1, e2, e3, _⟩ := F.ex
    refine wpAny_handleBy_cons (codeAny_handlers_test (ld_glob (X := X.hand a) (J3.hand a) hg hm (matches_own J3.kIn c e1 e2 hmro ?_) hd)) (by intro q; cases q)
    refine codeAny_handlers_suite_as ?_
    have F0 : Fly (Att.noObjs s3.heap) H2 s3.heap a T (.ref C) := ⟨F.ex, Att.noObjs_get _ _, Att.noObjs_get _ _, F.freeE, F.freeT⟩
    refine unflight J3 F0 (fun b _ => Att.noObjs_get _ _) ha hT fun s4 J4 ⟨T', F4⟩ => ?_
    obtain ⟨oe, vs, oT, ts, e1, e2, e3, _⟩ := F4.ex
    have J5 : Inv X pins (fgt as σ) (upd H2 a (excO a (.ref C))) s4 := J4.track F4.freeE ha fun H' => ⟨⟨oe, vs, e1, e2, e3⟩, ⟨oe, e1⟩, fun h1 h2 ⟨o, vs, z1, z2, z3⟩ k => ⟨o, vs, k o z1, z2, z3⟩⟩
    refine store_ok (X := X.hand a) (J5.hand a) hN hi (.inl hk) (v := .ref a) (show RelV (.ref a) (.ref a) from rfl) (fun s5 J6 => ?_) ⟨.inr hk, fun v z => by rw [show (X.hand a).lk = [] from B.lk] at z; exact lk_nil v z⟩
    refine wpAny_mono (hh a pins s5 _ _ _ J6 (hth a F.freeE)) (fun f s6 h6 => ?_) fun _ _ z => z.elim
    have lk0 : ∀ v, X.lk[i]? ≠ some (some v) := fun v z => by rw [B.lk] at z; exact lk_nil v z
    cases f with
    | next => obtain ⟨σ6, H6, J7, d⟩ := h6; exact unbind_ok (J7.unhand I.ok) hN hi hk lk0 fun s7 J8 => ⟨_, H6, J8, d⟩
    | brk => obtain ⟨σ6, H6, J7, d⟩ := h6; exact unbind_ok (J7.unhand I.ok) hN hi hk lk0 fun s7 J8 => ⟨_, H6, J8, d⟩
    | cont => obtain ⟨σ6, H6, J7, d⟩ := h6; exact unbind_ok (J7.unhand I.ok) hN hi hk lk0 fun s7 J8 => ⟨_, H6, J8, d⟩
    | ret u => obtain ⟨v, σ6, H6, J7, r, d⟩ := h6; exact unbind_ok (J7.unhand I.ok) hN hi hk lk0 fun s7 J8 => ⟨v, _, H6, J8, r, d⟩
  · have h2 := SP.untried B.lk h1
    cases f with
    | next => exact wpAny_execs_nil h2
    | brk => exact h2
    | cont => exact h2
    | ret u => exact h2
theorem ps_try (B : Body X) (c : Catch X.K CB) (hg : Gl X cx) (hm : X.mg cx = some (.ref CB))
    (hb : ∀ (E' : Value → Shared → Prop) (lk : St) (pn : List (Addr × Obj)) (EX : XK), (∀ j ∈ as, ∀ v, lk[j]? ≠ some (some v)) → PassesOwn (model X.prog X.w) X.A X.env E' → Passes (CX1 X.prog X.w) (X.tried E' lk pn) EX → PSs (X.tried E' lk pn) body (tb EX))
    (hh : ∀ a, PSs (X.hand a) (b₀ :: suite) th) (hd : (cx == ("__debug__" : Str)) = false := by decide) :
    PS X (.Try body [.ExceptHandler (some (.Name cx p)) none (b₀ :: suite) hpos] [] [] pos) (tTry X.K as CB tb th) := by
  intro pins s σ H D I h
  refine wpAny_Try_except ?_
  have lkl : (fgt as σ).length = X.N.length := by rw [fgt_length]; exact I.len
  have I' := I.tried (lk := fgt as σ) (fun ev s₁ => wpAny (model X.prog X.w) X.A (noteFrame ev X.env) (fun _ s₂ => wpAny (model X.prog X.w) X.A (setFlight ev none)
    (fun _ s₃ => wpAny (model X.prog X.w) X.A (handleBy ev X.env [.ExceptHandler (some (.Name cx p)) none (b₀ :: suite) hpos]) (SP X pins D) X.xe s₃) X.xe s₂) X.xe s₁) fun i v z => (fgt_get as z).1
  refine wpAny_mono (hb _ _ _ (xCl X.K as CB th D σ) (fun j hj v z => (fgt_get as z).2 hj) PassesOwn.looking (fun pins' σ' H1 s1 ev s2 J hcx => ?_) [] s σ H D I' h) (fun f s1 h1 => ?_) fun _ _ z => z
  · refine land B lkl J hcx fun a T cls H2 s3 _ hE J3 F ha hT => ?_
    obtain ⟨C, rfl, hmro, hth⟩ := hE
    obtain ⟨oe, vs, oT, ts, e1, e2, e3, _⟩ := F.ex
    refine wpAny_handleBy_cons (codeAny_handlers_test (ld_glob (X := X.hand a) (J3.hand a) hg hm (matches_own J3.kIn c e1 e2 hmro ?_) hd)) (by intro q; cases q)
    refine codeAny_handlers_suite ?_
    have F0 : Fly (Att.noObjs s3.heap) H2 s3.heap a T (.ref C) := ⟨F.ex, Att.noObjs_get _ _, Att.noObjs_get _ _, F.freeE, F.freeT⟩
    refine unflight J3 F0 (fun b _ => Att.noObjs_get _ _) ha hT fun s4 J4 _ => ?_
    refine wpAny_mono (hh a pins s4 _ _ _ (J4.hand a) hth) (fun f s6 h6 => ?_) fun _ _ z => z.elim
    exact h6.unhand I.ok
  · have h2 := SP.untried B.lk h1
    cases f with
    | next => exact wpAny_execs_nil h2
    | brk => exact h2
    | cont => exact h2
    | ret u => exact h2
end
/-! ### a def whose exceptions are told -/
section
variable {P : Program} {w : World} {K : PySem.W.Frag} {mg : Str → Option Value} {base : Heap}
/-- THE RULE for a def that may raise -/
theorem Fun.okX {x qual : Str} {st : Stmt} {f : Addr} {fd : FuncData} {N ps : List Str} {k : Nat} {sp : Sp} (F : Fun K x qual st f fd) (S : FnScope N ps (defScope st)) (len : ∀ vs H Q E, sp vs H Q E → vs.length = ps.length)
    (hbody : ∀ (cdv : Value) (A : Around) (outer : List Env) (s : Shared) (H : Hp) (vs : List V) (Q : VK) (E : XK), Room k (A.deeper (envOfC qual (defScope st) s.heap.objs.size f cdv)) → sp vs H Q E →
      ∃ t, PSs (cxOf (CX1 P w) P w K mg base N qual (defScope st) f cdv A outer s H E) (defBody st) t ∧ t { nx := fun _ H' => Q .non H', rt := Q } (start N vs) H) : FnOk P w K mg base (CX1 P w) (k + 1) f fd ps sp := by
  obtain ⟨oc, od, kV, doc, pm, an, cdv, ct, osl, rfl, lk, hcd⟩ := F.ex
  exact fn_of lk hcd S len fun A outer s H vs Q E hr hsp => hbody cdv A outer s H vs Q E hr hsp
end
end L2

set_option Elab.async false
set_option linter.all false
set_option maxRecDepth 100000
/-! list comprehensions over the layer -/
namespace L2
open PySem PySem.Spec PyProof.Rows
/-- every one of a written list -/
def AllP {α : Type} (p : α → Prop) : List α → Prop
  | [] => True
  | a :: r => p a ∧ AllP p r
theorem AllP.get : ∀ {l : List α} {a : α}, AllP p l → a ∈ l → p a
  | _ :: _, _, h, .head _ => h.1
  | _ :: _, _, h, .tail _ m => AllP.get h.2 m
/-- the block of a comprehension in X: Nc its names, the loop's own first -/
def cxComp (X : Cx) (pn : List (Addr × Obj)) (Nc : List Str) (scope : Scope) (cl : List (Str × Addr)) (s₀ : Shared) (H₀ : Hp) (fp : List Addr) (C : Addr) : Cx :=
  { X with N := Nc, s₀ := s₀, H₀ := H₀, env := compEnvC scope cl C X.env, outer := X.stack, stack := X.stack, ex := fp, fn := fun _ => false, pn := pn, xe := fun _ _ => False, lk := [] }
/-- the block's values: the loop's own, then those of the enclosing def at the slots js -/
def cs (js : List Nat) (σ : St) (x : V) : St := some x :: js.map fun j => (σ[j]?).getD none
/-- a list of tests (none or one) -/
def PTs (X : Cx) (ifs : List Expr) (t : TT) : Prop :=
  ∀ (pins : List (Addr × Obj)) (s : Shared) (σ : St) (H : Hp) (Q : Bool → Hp → Prop), Inv X pins σ H s → t σ H Q →
    wpAny (model X.prog X.w) X.A (forIn ifs true fun c r => if r = true then do let ok ← isTrue c X.env (eval c X.env); pure (ForInStep.yield ok) else pure (ForInStep.yield r)) (TP X pins σ Q) X.xe s
def tYes : TT := fun _ H Q => Q true H
theorem pts_nil : PTs X [] tYes := fun _ _ _ H _ I h => wpAny_tests_nil ⟨H, I, h⟩
theorem pts_one (h : PT X c t) : PTs X [c] t := fun pins s σ H Q I q => wpAny_tests_one (h pins s σ H Q I q)
/-- the reading behind the iterator -/
def CompW (J : It) (js : List Nat) (tt : TT) (te : TE) (σ : St) (H : Hp) (Q : VK) : Prop := ∃ W : Nat → Nat → List V → Hp → Prop, (∃ m, W 0 m [] H) ∧ ∀ i m ys H, W i m ys H →
  (J.stop i H ∧ ys.length ≤ sizeLine ∧ ∀ p, H p = none → Q (.ref p) (upd H p (.lst ys))) ∨
  (J.go i H ∧ ys.length < sizeLine ∧ ∃ N : List V → Hp → Prop, (∀ ys' H', N ys' H' → ∃ m', m' < m ∧ W (i + 1) m' ys' H') ∧ ∀ x H', J.yld i H x H' → tt (cs js σ x) H' fun b H2 => if b = true then te (cs js σ x) H2 fun y H3 => N (ys ++ [y]) H3 else N ys H2)
def tComp (wi : TI) (js : List Nat) (tt : TT) (te : TE) : TE := fun σ H Q => wi σ H fun J H1 => CompW J js tt te σ H1 Q
section
variable {X : Cx} {elt iter : Expr} {x : Str} {px pos : Pos} {ifs : List Expr} {scope : Scope} {cl : List (Str × Addr)} {ys : List Str} {js : List Nat}
/-- what of the text a comprehension must have: ys the enclosing def's names in it, at the slots js -/
structure CompT (X : Cx) (x : Str) (scope : Scope) (cl : List (Str × Addr)) (ys : List Str) (js : List Nat) : Prop where
  clos : closureFor scope X.env = pure cl
  kind : scope.kind = .function
  names : ∀ y ∈ scope.names, y.2 = .local → scope.names.lookup y.1 = some .local
  nocell : ∀ y ∈ scope.names, y.2 ≠ .cell
  own : scope.names.lookup x = some .local
  nd : (x :: ys).Nodup
  at_ : js.map (X.N[·]?) = ys.map some
  free : AllP (fun y => X.env.kindOf y = some .cell ∧ (relabel scope X.env).names.lookup y = some .cell ∧ cl.lookup y = X.env.cells.lookup y) ys
  only : AllP (fun p => X.env.cells.lookup p.1 = some p.2) cl
  vis : ∀ y ∈ scope.names, y.2 = .free → y.1 ∈ ys
theorem CompT.same (c : CompT X x scope cl ys js) (h : cl.lookup y = some a) : X.env.cells.lookup y = some a := c.only.get (PySem.mem_of_lookup h)
theorem relabel_cell {env : Env} : ∀ {names : List (Str × NameKind)} {y : Str}, (names.map fun (n, k) => if (k == NameKind.free && env.scope.kind == .function && env.kindOf n == some .cell) then (n, NameKind.cell) else (n, k)).lookup y = some .cell ∨
    (names.map fun (n, k) => if (k == NameKind.free && env.scope.kind == .function && env.kindOf n == some .cell) then (n, NameKind.cell) else (n, k)).lookup y = some .free → ∃ k, (y, k) ∈ names ∧ (k = .cell ∨ k = .free)
  | [], _, h => by rcases h with h | h <;> simp at h
  | (n, k) :: r, y, h => by
    by_cases hx : y = n
    · subst hx
      refine ⟨k, List.mem_cons_self, ?_⟩
      rw [List.map_cons] at h
      dsimp only at h
      by_cases hc : (k == NameKind.free && env.scope.kind == .function && env.kindOf y == some .cell) = true
      · simp only [Bool.and_eq_true, beq_iff_eq] at hc
        exact .inr hc.1.1
      · rw [if_neg hc] at h
        simp only [List.lookup_cons, beq_self_eq_true] at h
        rcases h with h | h
        · exact .inl (Option.some.inj h)
        · exact .inr (Option.some.inj h)
    · have hb : (y == n) = false := beq_eq_false_iff_ne.mpr hx
      have ih := @relabel_cell env r y
      rw [List.map_cons] at h
      have key : ∀ z : Str × NameKind, z.1 = n → List.lookup y (z :: (r.map fun (n, k) => if (k == NameKind.free && env.scope.kind == .function && env.kindOf n == some .cell) then (n, NameKind.cell) else (n, k))) =
          List.lookup y (r.map fun (n, k) => if (k == NameKind.free && env.scope.kind == .function && env.kindOf n == some .cell) then (n, NameKind.cell) else (n, k)) := fun z hz => by
        obtain ⟨z1, z2⟩ := z
        cases hz
        simp only [List.lookup_cons, hb]
      rw [key _ (by dsimp only; split <;> rfl)] at h
      obtain ⟨k', m, q⟩ := ih h
      exact ⟨k', List.mem_cons_of_mem _ m, q⟩
theorem comp_ok {pins : List (Addr × Obj)} {σ : St} {H : Hp} {s : Shared} {fp : List Addr} {C : Addr} {pn : List (Addr × Obj)} {Nc : List Str} (c : CompT X x scope cl ys js) (I : Inv X pins σ H s) (hf : ∀ b ∈ fp, FpOk X pins H b) (hex : ∀ b ∈ fp, b < s.heap.objs.size) (hC : s.heap.objs.size ≤ C) :
    (cxComp X pn Nc scope cl s H fp C).Ok where
  mod := I.ok.mod
  kind := c.kind
  glob := I.ok.glob
  blt := I.ok.blt
  above := hC
  inj := fun y z a h1 h2 => I.ok.inj y z a (c.same h1) (c.same h2)
  has := fun y h => by
    obtain ⟨k, m, q⟩ := relabel_cell h
    rcases q with rfl | rfl
    · exact absurd rfl (c.nocell _ m)
    · obtain ⟨a1, a2, a3⟩ := c.free.get (c.vis _ m rfl)
      obtain ⟨a, ha⟩ := I.ok.has y (.inl a1)
      exact ⟨a, a3.trans ha⟩
  cab := fun _ _ h => by cases h
  hd := I.ok.hd
  frames := I.ok.frames
  stk := .inl rfl
  exf := fun b hb => by
    obtain ⟨f0, f1, f2, f3, f4, f5⟩ := hf b hb
    exact ⟨Nat.ne_of_lt (Nat.lt_of_lt_of_le (hex b hb) hC), fun y a h => f4 y a (c.same h)⟩
  bs := I.bs
  bsz := Nat.le_trans I.ok.bsz I.sz
  noex := fun b o q hb => by
    obtain ⟨f0, f1, f2, f3, f4, f5⟩ := hf b hb
    rcases f3 with z | z
    · exact I.ok.noex b o q z
    · exact absurd (Nat.lt_of_lt_of_le (Heap.lt_size (I.ok.bs b o q).1) z) (Nat.lt_irrefl _)
  exfs := fun b hb m => by
    obtain ⟨f0, f1, f2, f3, f4, f5⟩ := hf b hb
    exact (List.mem_cons.mp (I.stkSub b m)).elim f1 f2
  funs := I.stack
  frf := I.stkFree
/-- the block's state at its entry -/
theorem comp_inv (c : CompT X x scope cl ys js) (I : Inv X pins σ H s) (hf : ∀ b ∈ fp, FpOk X pins H b) (hex : ∀ b ∈ fp, b < s.heap.objs.size) (hC : s.heap.objs.size ≤ C)
    (hns : h1.Ns C m1) (old : ∀ b o, s.heap.get? b = some o → h1.get? b = some o) :
    Inv (cxComp X (X.pn ++ pins) (x :: ys) scope cl s H fp C) [] (none :: js.map fun j => (σ[j]?).getD none) H { s with heap := h1, toks := t1 } := by
  obtain ⟨m, hn, hl⟩ := I.loc
  have jl : js.length = ys.length := by have := congrArg List.length c.at_; simpa using this
  refine ⟨comp_ok c I hf hex hC, rfl, I.bare, Un.kept old, ⟨m1, hns, fun i y v e1 e2 e3 => ?_⟩, fun y a h => ?_, I.hok.fresh hC, fun y a h => I.freeC y a (c.same h), fun p hp => ?_, I.hok.kept old, by simp [jl, cxComp]⟩
  · have e2 := e2.resolve_right (lk_nil _)
    cases i with
    | zero => simp at e2
    | succ k =>
      have e1 : ys[k]? = some y := e1
      rw [List.getElem?_cons_succ, List.getElem?_map] at e2
      cases hj : js[k]? with
      | none => rw [hj] at e2; cases e2
      | some j =>
        rw [hj] at e2
        have ej : X.N[j]? = some y := by
          have q := congrArg (·[k]?) c.at_
          simp only [List.getElem?_map, hj, e1, Option.map_some] at q
          exact Option.some.inj q
        have ev : σ[j]? = some (some v) := by
          simp only [Option.map_some, Option.some.injEq] at e2
          cases hσ : σ[j]? with
          | none => rw [hσ] at e2; cases e2
          | some o => rw [hσ] at e2; rw [show o = some v from e2]
        obtain ⟨a1, a2, a3⟩ := c.free.get (List.mem_of_getElem? e1)
        obtain ⟨u, r, l⟩ := hl j y v ej (.inl ev) (.inr (.inl a1))
        refine ⟨u, r, .inr ⟨.inl a2, ?_⟩⟩
        rcases l with ⟨k1, _⟩ | ⟨_, b, e, z⟩
        · rw [a1] at k1; cases k1
        · obtain ⟨o, ho, hd⟩ := z
          exact ⟨b, a3.trans e, o, old _ _ ho, hd⟩
  · obtain ⟨v, o, ho, hd⟩ := I.cell y a (c.same h)
    exact ⟨v, o, old _ _ ho, hd⟩
  · obtain ⟨e, n, ne, nf, d⟩ := I.pin p (by simpa [cxComp] using hp)
    refine ⟨old _ _ e, n, Nat.ne_of_lt (Nat.lt_of_lt_of_le (Heap.lt_size e) hC), fun m => ?_, d⟩
    exact (List.mem_cons.mp (I.stkSub _ m)).elim ne nf
/-- the walk of the block; Use: what is wanted when it is through (the value is told, or stored at once) -/
theorem comp_walk {pins : List (Addr × Obj)} {σ : St} {H : Hp} {s : Shared} {tt : TT} {te : TE} {it : Addr} {fp : List Addr} {tn : Nat → Heap → Prop} {J : It} {W : Nat → Nat → List V → Hp → Prop} {m0 : Nat} {Q : VK} {E : Value → Shared → Prop} {RR : Value → Addr → Result → Shared → Prop}
    (hcm : X.calm = true) (c : CompT X x scope cl ys js) (ht : ∀ pn s₀ H₀ fp C, PTs (cxComp X pn (x :: ys) scope cl s₀ H₀ fp C) ifs tt) (he : ∀ pn s₀ H₀ fp C, PE (cxComp X pn (x :: ys) scope cl s₀ H₀ fp C) elt te)
    (I : Inv X pins σ H s) (T : Turn X.prog X.w X.K (.Name x px) J fp it tn) (st0 : tn 0 s.heap) (hf : ∀ b ∈ fp, FpOk X pins H b) (w0 : W 0 m0 [] H)
    (turn : ∀ i m ys H, W i m ys H → (J.stop i H ∧ ys.length ≤ sizeLine ∧ ∀ p, H p = none → Q (.ref p) (upd H p (.lst ys))) ∨
      (J.go i H ∧ ys.length < sizeLine ∧ ∃ N : List V → Hp → Prop, (∀ ys' H', N ys' H' → ∃ m', m' < m ∧ W (i + 1) m' ys' H') ∧ ∀ x H', J.yld i H x H' → tt (cs js σ x) H' fun b H2 => if b = true then te (cs js σ x) H2 fun y H3 => N (ys ++ [y]) H3 else N ys H2))
    (hRR : ∀ D C s' m, s'.heap.Ns C m → (∀ h', Heap.SameBut C s'.heap h' → ∃ H', Inv X pins σ H' { s' with heap := h' } ∧ Q (.ref D) H') → (∃ H', Inv X pins σ H' s' ∧ Q (.ref D) H' ∧ H' C = none) → s.heap.objs.size ≤ C → RR (.ref D) C (.ok .next) s') :
    wpAny (model X.prog X.w) X.A (newList []) (fun acc s₃ => wpAny (model X.prog X.w) X.A (newFunctionEnv scope X.env.globals cl [] X.env.qual none .none (some X.env)) (fun cenv s₄ =>
      codeAny (model X.prog X.w) X.A (.compStart (.ListComp elt [⟨.Name x px, iter, ifs, 0⟩] scope pos) 0 (.ref it) acc { cenv with scope := relabel scope X.env }) (RR acc cenv.locals) s₄) E s₃) E s := by
  refine wpAny_newObj_type (wpAny_newFunctionEnv c.nocell (by intro y hy; simp at hy) (fun h₁ hns₁ hsb₁ => ?_) c.kind)
  dsimp only at hns₁ hsb₁ ⊢
  generalize hH2 : s.heap.push { cls := .type "list", dict := none, data := .seq ([] : List Value).toArray } = G at hns₁ hsb₁ ⊢
  generalize hD : s.heap.objs.size = D
  have hC : G.objs.size = D + 1 := by rw [← hH2, Heap.size_push, hD]
  generalize hCe : G.objs.size = C at hns₁ hsb₁ ⊢
  have hCD : C = D + 1 := hCe.symm.trans hC
  have hDC : D ≠ C := by omega
  have below : ∀ b o, s.heap.get? b = some o → b < D := fun b o e => by rw [← hD]; exact Heap.lt_size e
  have ltC : ∀ b : Addr, b < D → b ≠ C := fun b h => Nat.ne_of_lt (hCD ▸ Nat.lt_succ_of_lt h)
  have ltD : ∀ b : Addr, b < D → b ≠ D := fun b h => Nat.ne_of_lt h
  have old : ∀ b o, s.heap.get? b = some o → h₁.get? b = some o := fun b o e => hsb₁.extBut b o (ltC b (below b o e)) (Heap.get?_push_of_some _ (hH2 ▸ Heap.get?_push_of_some _ e))
  have hacc : h₁.PlainList D #[] := ⟨_, hsb₁.extBut _ _ hDC (Heap.get?_push_of_some _ (by rw [← hH2, ← hD]; exact Heap.get?_push_size _ rfl))⟩
  have hex : ∀ b ∈ fp, b < s.heap.objs.size := fun b hb => by
    obtain ⟨o, e, _⟩ := T.obj _ _ st0 b hb
    exact Heap.lt_size e
  have lt0 : ∀ b ∈ fp, b < D := fun b hb => by rw [← hD]; exact hex b hb
  have freshD : s.heap.get? D = none := Heap.get?_none_of_le (by omega)
  have freshC : s.heap.get? C = none := Heap.get?_none_of_le (by omega)
  -- the frame of the block
  have frE : ∀ {H' : Hp}, (∀ b ∈ fp, H' b = none) → ∀ {o : Obj} {b : Addr}, b ∈ fp → FpOk (cxComp X (X.pn ++ pins) (x :: ys) scope cl s H fp C) [(D, o)] H' b := fun {H'} hn {o b} hb => by
    obtain ⟨f0, f1, f2, f3, f4, f5⟩ := hf b hb
    refine ⟨hn b hb, ?_, ?_, .inl hb, fun y a h => f4 y a (c.same h), fun p hp => ?_⟩
    · exact ltC b (lt0 b hb)
    · exact fun m => (List.mem_cons.mp (I.stkSub b m)).elim f1 f2
    · rcases List.mem_append.mp hp with z | z
      · exact f5 p z
      · rw [List.mem_singleton.mp z]
        exact Ne.symm (ltD b (lt0 b hb))
  have pinD : ∀ {σ' : St} {H' : Hp} {s' : Shared} {o : Obj}, Inv (cxComp X (X.pn ++ pins) (x :: ys) scope cl s H fp C) [] σ' H' s' → s'.heap.get? D = some o → (∀ v, o.data ≠ .cell v) → H' D = none → Inv (cxComp X (X.pn ++ pins) (x :: ys) scope cl s H fp C) [(D, o)] σ' H' s' := fun {σ' H' s' o} Ic e nc n =>
    Ic.pins_of fun p hp => by
      rw [List.mem_singleton.mp hp]
      refine ⟨e, n, hDC, fun m => ?_, nc⟩
      obtain ⟨_, ob, hob, _⟩ := I.stack.mem m
      exact absurd (below D ob hob) (Nat.lt_irrefl _)
  have loop : ∀ s₃ : Shared, s₃ = { s with heap := h₁, toks := s.toks + ([] : List (Str × Value)).length } →
      codeAny (model X.prog X.w) X.A (.compLoop (.ListComp elt [⟨.Name x px, iter, ifs, 0⟩] scope pos) 0 (.ref it) (.ref D) (compEnvC scope cl C X.env)) (RR (.ref D) C) s₃ := by
    rintro s₃ rfl
    have I0 := comp_inv (t1 := s.toks + ([] : List (Str × Value)).length) c I hf hex (by omega : s.heap.objs.size ≤ C) hns₁ old
    refine codeAny_compLoop_tests (fun n s' => ∃ i o H' zs its, Inv (cxComp X (X.pn ++ pins) (x :: ys) scope cl s H fp C) [] (o :: js.map fun j => (σ[j]?).getD none) H' s' ∧ tn i s'.heap ∧ (∀ b ∈ fp, H' b = none) ∧ s'.heap.PlainList D (its : List Value).toArray ∧ Vals zs its ∧ H' D = none ∧ W i n zs H') ?_ m0
      ⟨0, none, H, [], [], I0, T.keep _ _ _ st0 fun b hb o e => old b o e, fun b hb => (hf b hb).1, hacc, .nil, I.hok.fresh (by omega), w0⟩
    rintro n s3 ⟨i, o3, H3, zs, its, I3, st3, fr3, ⟨n3, pl3⟩, rv3, fD3, w3⟩
    have I3' := pinD I3 pl3 (by intro v z; cases z) fD3
    rcases turn i n zs H3 w3 with ⟨stop, hsz, fin⟩ | ⟨go, hsz, Nx, hNx, step⟩
    · refine wpAny_mono (T.done (cxComp X (X.pn ++ pins) (x :: ys) scope cl s H fp C) rfl rfl rfl hcm i _ s3 _ H3 (fun _ _ => False) I3' (fun b hb => frE fr3 hb) st3 stop) (fun r s4 ⟨hr, I4⟩ => ?_) fun _ _ z => z.elim
      subst hr
      have plD : s4.heap.get? D = some _ := (I4.pin (D, { cls := Value.type "list", data := .seq its.toArray n3 }) (List.mem_append_right _ List.mem_cons_self)).1
      obtain ⟨m4, hn4, _⟩ := I4.loc
      have okU : ∀ h', (∀ b o, b ≠ C → s4.heap.get? b = some o → h'.get? b = some o) → Inv X pins σ (upd H3 D (.lst zs)) { s4 with heap := h' } := fun h' k1 => by
        have u4 : Un (frs X.stack) fp H H3 s.heap s4.heap := I4.base
        have neC : ∀ b o, s.heap.get? b = some o → b ≠ C := fun b o e => ltC b (below b o e)
        have neD : ∀ b o, s.heap.get? b = some o → b ≠ D := fun b o e => ltD b (below b o e)
        have trD : ∀ b u, H3 b = some u → b ≠ D := fun b u e z => by rw [z, fD3] at e; cases e
        have trC : ∀ b u, H3 b = some u → b ≠ C := fun b u e z => by rw [z, show H3 C = none from I4.free] at e; cases e
        have un : Un (frs X.stack) fp H (upd H3 D (.lst zs)) s.heap h' := by
          refine ⟨fun b o e n hb hx => k1 b o (neC b o e) (u4.keep b o e n hb hx), fun b o e n hb hx => ?_, fun b o e n hx => ?_, fun b o e hx => ?_, fun b xs e => ?_, fun b ob u e => ?_, fun b ps e => ?_⟩
          · obtain ⟨sl, z⟩ := u4.slot b o e n hb hx
            exact ⟨sl, k1 b _ (neC b o e) z⟩
          · rw [upd_ne (neD b o e)]; exact u4.free b o e n hx
          · obtain ⟨o', z⟩ := u4.there b o e hx
            exact ⟨o', k1 b o' (neC b o e) z⟩
          · have z := u4.tups b xs e
            rw [upd_ne (trD b _ z)]; exact z
          · have z := u4.frzs b ob u e
            rw [upd_ne (trD b _ z)]; exact z
          · obtain ⟨more, z⟩ := u4.tbls b ps e
            exact ⟨more, by rw [upd_ne (trD b _ z)]; exact z⟩
        refine I.call' (s' := { s4 with heap := h' }) (ch := fp) (show s4.os = s.os from I4.os) un (fun b u e => ?_) I4.bare fun b hb => ?_
        · by_cases hb : b = D
          · subst hb
            rw [upd_same] at e; cases e
            exact ⟨hsz, its, n3, rv3, k1 _ _ hDC plD⟩
          · rw [upd_ne hb] at e
            refine (I4.hok b u e).stay (fun d v hd q => ?_) (fun d q => by rw [upd_ne (trD d _ q)]; exact q) fun d xs q => by rw [upd_ne (trD d _ q)]; exact q
            rcases hd with z | z
            · exact k1 d v (by rw [z]; exact trC b u e) q
            · exact k1 d v (trC d _ z) q
        · obtain ⟨f0, f1, f2, f3, f4, f5⟩ := hf b hb
          exact ⟨f3, f1, f4, f5⟩
      refine hRR D C s4 m4 hn4 (fun h' hs' => ⟨_, okU h' (fun b o hb e => hs'.extBut b o hb e), fin D fD3⟩) ⟨_, okU s4.heap (fun _ _ _ e => e), fin D fD3, ?_⟩ (by omega)
      · rw [upd_ne (Ne.symm hDC)]; exact I4.free
    · refine wpAny_mono (T.item (cxComp X (X.pn ++ pins) (x :: ys) scope cl s H fp C) rfl rfl rfl hcm i _ s3 _ H3 (fun _ _ => False) I3' (fun b hb => frE fr3 hb) st3 go) (fun r s4 ⟨u, hr, h4⟩ => ?_) fun _ _ z => z.elim
      subst hr
      have done : ∀ {P : Unit → Shared → Prop} {Q2 : Unit → Shared → Prop} {E2 : Value → Shared → Prop}, (∀ s5, P () s5 → wpAny (model X.prog X.w) X.A (assign (.Name x px) (compEnvC scope cl C X.env) u) Q2 E2 s5) → wpAny (model X.prog X.w) X.A (letOwnedTupleGo (.Name x px) (.ref it) u) P (fun _ _ => False) s4 →
          wpAny (model X.prog X.w) X.A (assign (.Name x px) (compEnvC scope cl C X.env) u) Q2 E2 s4 := fun k hh => by
        have := wpAny_bind (m := letOwnedTupleGo (.Name x px) (.ref it) u) (f := fun _ => assign (.Name x px) (compEnvC scope cl C X.env) u) (wpAny_mono hh (fun _ s5 z => k s5 z) fun _ _ z => z.elim)
        exact this
      refine done (fun s5 h5 => ?_) h4
      obtain ⟨xv, H5, I5, r5, y5, st5, fr5⟩ := h5
      have I5' := I5.pinned (fun b hb => frE fr5 hb) (T.obj _ _ st5)
      refine wpAny_assign_Name (store_ok (X := cxComp X (X.pn ++ pins) (x :: ys) scope cl s H fp C) (i := 0) I5' c.nd rfl (.inl (lookup_relabel_local c.own)) r5 (fun s6 I6 => ?_) ⟨.inr (lookup_relabel_local c.own), lk_nil⟩)
      refine wpAny_mono (ht _ _ _ _ _ _ s6 _ H5 _ I6 (step xv H5 y5)) (fun ok s7 ⟨H7, I7, q7⟩ => ?_) fun _ _ z => z.elim
      have keepF : ∀ {σ8 : St} {H8 : Hp} {s8 : Shared}, Inv (cxComp X (X.pn ++ pins) (x :: ys) scope cl s H fp C) ([(D, { cls := Value.type "list", data := .seq its.toArray n3 })] ++ pinsAt fp s5.heap) σ8 H8 s8 → tn (i + 1) s8.heap ∧ (∀ b ∈ fp, H8 b = none) ∧ s8.heap.PlainList D its.toArray ∧ H8 D = none := fun {σ8 H8 s8} I8 => by
        refine ⟨T.keep _ _ _ st5 fun b hb o e => (I8.pin (b, o) (List.mem_append_right _ (List.mem_append_right _ (mem_pinsAt hb e)))).1, fun b hb => ?_, ⟨n3, (I8.pin (D, _) (List.mem_append_right _ List.mem_cons_self)).1⟩, (I8.pin (D, _) (List.mem_append_right _ List.mem_cons_self)).2.1⟩
        obtain ⟨o, e, d⟩ := T.obj _ _ st5 b hb
        exact (I8.pin (b, o) (List.mem_append_right _ (List.mem_append_right _ (mem_pinsAt hb e)))).2.1
      have bare : ∀ {σ8 : St} {H8 : Hp} {s8 : Shared}, Inv (cxComp X (X.pn ++ pins) (x :: ys) scope cl s H fp C) ([(D, { cls := Value.type "list", data := .seq its.toArray n3 })] ++ pinsAt fp s5.heap) σ8 H8 s8 → Inv (cxComp X (X.pn ++ pins) (x :: ys) scope cl s H fp C) [] σ8 H8 s8 := fun I8 => I8.pins_of fun _ z => (nomatch z)
      cases ok with
      | false =>
        simp only [Bool.false_eq_true, if_false] at q7 ⊢
        obtain ⟨m', hm', w7⟩ := hNx _ _ q7
        obtain ⟨a1, a2, a3, a4⟩ := keepF I7
        exact ⟨m', hm', i + 1, some xv, H7, zs, its, bare I7, a1, a2, a3, rv3, a4, w7⟩
      | true =>
        simp only [if_true] at q7 ⊢
        refine wpAny_mono (he _ _ _ _ _ _ s7 _ H7 _ I7 q7) (fun y s8 ⟨yv, H8, I8, r8, q8⟩ => ?_) fun _ _ z => z.elim
        obtain ⟨m', hm', w8⟩ := hNx _ _ q8
        obtain ⟨a1, a2, a3, a4⟩ := keepF I8
        have szI : its.toArray.size ≤ sizeLine := by rw [List.size_toArray, ← rv3.length]; omega
        refine wpAny_list_append_plain (hsz := szI) a3 fun h9 pl9 sb9 => ?_
        have I8b := bare I8
        refine ⟨m', hm', i + 1, some xv, H8, zs ++ [yv], its ++ [y], ?_, T.keep _ _ _ a1 fun b hb o e => (sb9.2 b (ltD b (lt0 b hb))).trans e, a2, by rw [List.push_toArray] at pl9; exact pl9, rv3.append (.cons r8 .nil), a4, w8⟩
        refine I8b.turned (t' := s8.toks) (it := D) (fun b o hb e => (sb9.2 b hb).trans e) a4 hDC (.inr (show s.heap.objs.size ≤ D by omega)) (fun y' a h => ?_) fun p hp => ?_
        · obtain ⟨v, o, ho, _⟩ := I.cell y' a (c.same h)
          exact ltD a (below a o ho)
        · obtain ⟨e, _⟩ := I.pin p (by simpa [cxComp] using hp)
          exact ltD _ (below _ _ e)
  exact codeAny_compStart_list (loop _ rfl) (T.self _ 0 _ _ _ (T.keep _ _ _ st0 fun b hb o e => old b o e) (loop _ rfl))
variable {wi : TI} {tt : TT} {te : TE}
theorem pe_comp (hcm : X.calm = true) (c : CompT X x scope cl ys js) (hi : PI X (.Name x px) iter wi) (ht : ∀ pn s₀ H₀ fp C, PTs (cxComp X pn (x :: ys) scope cl s₀ H₀ fp C) ifs tt) (he : ∀ pn s₀ H₀ fp C, PE (cxComp X pn (x :: ys) scope cl s₀ H₀ fp C) elt te)
    (hs : ∀ x, foldedSetIterable iter X.env x = pure x := by intro _; rfl) : PE X (.ListComp elt [⟨.Name x px, iter, ifs, 0⟩] scope pos) (tComp wi js tt te) := by
  intro pins s σ H Q I h
  rw [eval_ListComp]
  refine wpAny_comprehension_free (use := none) rfl hs c.clos c.kind c.names (thn (hi pins s σ H _ I h) fun v s1 h1 => thn h1 fun itv s2 h2 => ?_)
  obtain ⟨it, fp, tn, J, H2, e, I2, T, st2, f2, W, ⟨m0, w0⟩, turn⟩ := h2
  subst e
  exact comp_walk (RR := fun acc C => compPost (model X.prog X.w) X.A X.xe none (EP X pins σ Q) acc C) hcm c ht he I2 T st2 f2 w0 turn fun D C s' m hn hS _ _ => ⟨m, hn, fun h' hs' => let ⟨H', I', q⟩ := hS h' hs'; ⟨.ref D, H', I', rfl, q⟩⟩
/-- y = [.. for ..], y a plain local in slot i: stored ahead of the block's end -/
theorem ps_setComp {y : Str} {py spos : Pos} {i : Nat} (hN : X.N.Nodup) (hy : X.N[i]? = some y) (hk : X.env.scope.names.lookup y = some .local) (hcm : X.calm = true) (c : CompT X x scope cl ys js) (hi : PI X (.Name x px) iter wi) (ht : ∀ pn s₀ H₀ fp C, PTs (cxComp X pn (x :: ys) scope cl s₀ H₀ fp C) ifs tt)
    (he : ∀ pn s₀ H₀ fp C, PE (cxComp X pn (x :: ys) scope cl s₀ H₀ fp C) elt te)
    (hsw : swapsWith (.ListComp elt [⟨.Name x px, iter, ifs, 0⟩] scope pos) (some (.Name y py)) spos.line X.env = pure true := by rfl) (hs : ∀ x, foldedSetIterable iter X.env x = pure x := by intro _; rfl)
    (hf : StOk X i y := by first | exact ⟨.inr rfl, lk_nil⟩ | assumption | exact ⟨.inr rfl, by assumption⟩) :
    PS X (.Assign [.Name y py] (.ListComp elt [⟨.Name x px, iter, ifs, 0⟩] scope pos) spos) (tAsg (tComp wi js tt te) (gName i)) := by
  intro pins s σ H D0 I h
  rw [exec_Assign_Name_used _ _ _ _ hsw]
  refine wpAny_bind (wpAny_standAt (wpAny_bind ?_))
  show wpAny _ X.A (do let _ ← comprehension (.ListComp elt [⟨.Name x px, iter, ifs, 0⟩] scope pos) scope X.env _ (newList []) false (eval iter X.env) (some (assign (.Name y py) X.env))) _ _ s
  refine wpAny_bind (wpAny_mono (wpAny_comprehension_free (use := some (assign (.Name y py) X.env)) (Q := fun _ s' => SP X pins D0 .next s') rfl hs c.clos c.kind c.names
    (thn (hi pins s σ H _ I h) fun v s1 h1 => thn h1 fun itv s2 h2 => ?_)) (fun _ s' hq => wpAny_pure (wpAny_pure hq)) fun _ _ e => e)
  obtain ⟨it, fp, tn, J, H2, e, I2, T, st2, f2, W, ⟨m0, w0⟩, turn⟩ := h2
  subst e
  refine comp_walk (Q := fun x H1 => D0.nx (σ.set i (some x)) H1) (RR := fun acc C => compPost (model X.prog X.w) X.A X.xe (some (assign (.Name y py) X.env)) (fun _ s' => SP X pins D0 .next s') acc C) hcm c ht he I2 T st2 f2 w0 turn fun D C s' m hn _ hS hC => ?_
  obtain ⟨H', I', q, fC⟩ := hS
  show wpAny _ X.A (assign (.Name y py) X.env (.ref D)) _ _ _
  have ltC : ∀ b o, s2.heap.get? b = some o → b ≠ C := fun b o e => Nat.ne_of_lt (Nat.lt_of_lt_of_le (Heap.lt_size e) hC)
  have neL : C ≠ X.env.locals := by
    obtain ⟨_, ⟨o, _, _, ho, _⟩, _⟩ := I2.loc
    exact Ne.symm (ltC _ o ho)
  have neK : ∀ z a, X.env.cells.lookup z = some a → a ≠ C := fun z a e => by
    obtain ⟨_, o, ho, _⟩ := I2.cell z a e
    exact ltC a o ho
  refine wpAny_assign_Name (store_ok2 I' hN hy (.inl hk) (v := .ref D) (show RelV (.ref D) (.ref D) from rfl) (fun s4 I4 ⟨a, hs4, ha⟩ => ?_) hf)
  have naC : C ≠ a := by
    rcases ha with ha | ha
    · rw [ha]; exact neL
    · exact Ne.symm (neK _ _ ha)
  refine ⟨m, hn.sameBut hs4 naC, fun h5 hs5 => ⟨_, H', ?_, q⟩⟩
  refine I4.turned (t' := s4.toks) (it := C) (fun b o hb e => hs5.extBut b o hb e) fC neL (.inr (Nat.le_trans I2.sz hC)) neK fun p hp => ?_
  obtain ⟨e, _⟩ := I2.pin p hp
  exact ltC _ _ e
end
/-! ### the forms one uses -/
/-- over a list that stands -/
theorem comp_list {K : PySem.W.Frag} {js : List Nat} {tt : TT} {te : TE} {a : Addr} {xs : List V} {σ : St} {H : Hp} {Q : VK} (Pv : Nat → List V → Hp → Prop) (h0 : Pv 0 [] H) (hl : ∀ i ys H, i ≤ xs.length → Pv i ys H → SqL K H a xs) (hz : xs.length ≤ sizeLine)
    (hy : ∀ i ys H, Pv i ys H → ys.length ≤ i)
    (hs : ∀ i x ys H, xs[i]? = some x → Pv i ys H → tt (cs js σ x) H fun b H2 => if b = true then te (cs js σ x) H2 fun y H3 => Pv (i + 1) (ys ++ [y]) H3 else Pv (i + 1) ys H2)
    (hd : ∀ ys H, Pv xs.length ys H → ∀ p, H p = none → Q (.ref p) (upd H p (.lst ys))) : CompW (Itl K a) js tt te σ H Q := by
  refine ⟨fun i m ys H => m = xs.length - i ∧ i ≤ xs.length ∧ Pv i ys H, ⟨xs.length, by simp, Nat.zero_le _, h0⟩, ?_⟩
  rintro i m ys H ⟨rfl, hi, p⟩
  have q := hl i ys H hi p
  have ly := hy i ys H p
  by_cases hlt : i < xs.length
  · refine .inr ⟨⟨xs, xs[i], q, by simp [hlt]⟩, by omega, Pv (i + 1), fun ys' H' p' => ⟨xs.length - (i + 1), by omega, rfl, hlt, p'⟩, fun x H' y => ?_⟩
    obtain ⟨e, y⟩ := y
    subst e
    exact hs i x ys _ (y xs q) p
  · have e : i = xs.length := by omega
    subst e
    exact .inl ⟨⟨xs, q, Nat.le_refl _⟩, by omega, hd ys H p⟩
/-- over a range -/
theorem comp_range {js : List Nat} {tt : TT} {te : TE} {lo : Int} {n : Nat} {σ : St} {H : Hp} {Q : VK} (Pv : Nat → List V → Hp → Prop) (h0 : Pv 0 [] H) (hz : n ≤ sizeLine) (hy : ∀ i ys H, Pv i ys H → ys.length ≤ i)
    (hs : ∀ i ys H, i < n → Pv i ys H → tt (cs js σ (.int (lo + i))) H fun b H2 => if b = true then te (cs js σ (.int (lo + i))) H2 fun y H3 => Pv (i + 1) (ys ++ [y]) H3 else Pv (i + 1) ys H2)
    (hd : ∀ ys H, Pv n ys H → ∀ p, H p = none → Q (.ref p) (upd H p (.lst ys))) : CompW (Itr lo n) js tt te σ H Q := by
  refine ⟨fun i m ys H => m = n - i ∧ i ≤ n ∧ Pv i ys H, ⟨n, by simp, Nat.zero_le _, h0⟩, ?_⟩
  rintro i m ys H ⟨rfl, hi, p⟩
  have ly := hy i ys H p
  by_cases hlt : i < n
  · refine .inr ⟨hlt, by omega, Pv (i + 1), fun ys' H' p' => ⟨n - (i + 1), by omega, rfl, hlt, p'⟩, fun x H' y => ?_⟩
    obtain ⟨e, y⟩ := y
    subst e y
    exact hs i ys _ hlt p
  · have e : i = n := by omega
    subst e
    exact .inl ⟨Nat.le_refl _, by omega, hd ys H p⟩
/-- a map over a list, each item of which is read without a trace -/
theorem comp_map {K : PySem.W.Frag} {js : List Nat} {te : TE} {a : Addr} {xs : List V} {σ : St} {H : Hp} {Q : VK} (f : V → V) (hl : SqL K H a xs) (hz : xs.length ≤ sizeLine)
    (hs : ∀ (i : Nat) (x : V) (R : VK), xs[i]? = some x → R (f x) H → te (cs js σ x) H R) (hd : ∀ p, H p = none → Q (.ref p) (upd H p (.lst (xs.map f)))) : CompW (Itl K a) js tYes te σ H Q := by
  refine comp_list (fun i ys H' => H' = H ∧ ys = (xs.take i).map f) ⟨rfl, rfl⟩ (fun i ys H' _ ⟨e, _⟩ => e ▸ hl) hz (fun i ys H' ⟨_, e⟩ => by rw [e, List.length_map]; exact List.length_take_le _ _) (fun i x ys H' hx ⟨e1, e2⟩ => ?_) fun ys H' ⟨e1, e2⟩ p hp => ?_
  · subst e1
    unfold tYes; dsimp only
    rw [if_pos rfl]
    refine hs i x _ hx ⟨rfl, ?_⟩
    rw [e2, List.take_add_one, hx, List.map_append]
    rfl
  · subst e1
    rw [e2, List.take_length]
    exact hd p hp
/-- a map over a range -/
theorem comp_mapR {js : List Nat} {te : TE} {lo : Int} {n : Nat} {σ : St} {H : Hp} {Q : VK} (f : Nat → V) (hz : n ≤ sizeLine)
    (hs : ∀ i (R : VK), i < n → R (f i) H → te (cs js σ (.int (lo + i))) H R) (hd : ∀ p, H p = none → Q (.ref p) (upd H p (.lst ((List.range n).map f)))) : CompW (Itr lo n) js tYes te σ H Q := by
  refine comp_range (fun i ys H' => H' = H ∧ ys = (List.range i).map f) ⟨rfl, rfl⟩ hz (fun i ys H' ⟨_, e⟩ => by rw [e, List.length_map, List.length_range]; exact Nat.le_refl _) (fun i ys H' hi ⟨e1, e2⟩ => ?_) fun ys H' ⟨e1, e2⟩ p hp => ?_
  · subst e1
    unfold tYes; dsimp only
    rw [if_pos rfl]
    refine hs i _ hi ⟨rfl, ?_⟩
    rw [e2, List.range_succ, List.map_append]
    rfl
  · subst e1
    rw [e2]
    exact hd p hp
/-- items that pass a test, as they are or turned -/
theorem comp_filter {K : PySem.W.Frag} {js : List Nat} {tt : TT} {te : TE} {a : Addr} {xs : List V} {σ : St} {H : Hp} {Q : VK} (p : V → Bool) (f : V → V) (hl : SqL K H a xs) (hz : xs.length ≤ sizeLine)
    (ht : ∀ (i : Nat) (x : V) (R : Bool → Hp → Prop), xs[i]? = some x → R (p x) H → tt (cs js σ x) H R) (hs : ∀ (i : Nat) (x : V) (R : VK), xs[i]? = some x → p x = true → R (f x) H → te (cs js σ x) H R)
    (hd : ∀ q, H q = none → Q (.ref q) (upd H q (.lst ((xs.filter p).map f)))) : CompW (Itl K a) js tt te σ H Q := by
  refine comp_list (fun i ys H' => H' = H ∧ ys = ((xs.take i).filter p).map f) ⟨rfl, rfl⟩ (fun i ys H' _ ⟨e, _⟩ => e ▸ hl) hz
    (fun i ys H' ⟨_, e⟩ => by rw [e, List.length_map]; exact Nat.le_trans (List.length_filter_le _ _) (List.length_take_le _ _)) (fun i x ys H' hx ⟨e1, e2⟩ => ?_) fun ys H' ⟨e1, e2⟩ q hq => ?_
  · subst e1
    refine ht i x _ hx ?_
    have e3 : ((xs.take (i + 1)).filter p).map f = ys ++ (if p x then [f x] else []) := by
      rw [e2, List.take_add_one, hx, List.filter_append, List.map_append]
      cases hp : p x <;> simp [hp]
    cases hp : p x with
    | true =>
      rw [if_pos rfl]
      refine hs i x _ hx hp ⟨rfl, ?_⟩
      rw [e3, hp]; rfl
    | false =>
      rw [if_neg (by decide)]
      refine ⟨rfl, ?_⟩
      rw [e3, hp]; simp
  · subst e1
    rw [e2, List.take_length]
    exact hd q hq
end L2

set_option Elab.async false
set_option linter.all false
set_option maxRecDepth 100000
/-! f-strings whose text is not asked, list(d), is True, == of made data -/
namespace L2
open PySem PySem.Spec PyProof.Rows
theorem vals_of_get : ∀ {xs : List V} {us : List Value}, xs.length = us.length → (∀ (j : Nat) x u, xs[j]? = some x → us[j]? = some u → RelV x u) → Vals xs us
  | [], [], _, _ => .nil
  | x :: xs, u :: us, hl, h => .cons (h 0 x u rfl rfl) (vals_of_get (by simpa using hl) fun j x' u' h1 h2 => h (j + 1) x' u' (by simpa using h1) (by simpa using h2))
/-! ### f-strings -/
abbrev TF := St → Hp → (Hp → Prop) → Prop
/-- a part of an f-string: a text of at most 10,000 signs comes -/
def PF (X : Cx) (e : Expr) (t : TF) : Prop :=
  ∀ (pins : List (Addr × Obj)) (s : Shared) (σ : St) (H : Hp) (k : Hp → Prop), Inv X pins σ H s → t σ H k →
    wpAny (model X.prog X.w) X.A (eval e X.env) (fun u s' => ∃ y tk H', u = .str y tk ∧ y.length ≤ 10000 ∧ Inv X pins σ H' s' ∧ k H') X.xe s
def PFs (X : Cx) (es : List Expr) (t : TF) : Prop :=
  ∀ (pins : List (Addr × Obj)) (s : Shared) (σ : St) (H : Hp) (k : Hp → Prop) (acc : Str), Inv X pins σ H s → acc.length + 10000 * es.length ≤ sizeLine → t σ H k →
    Joins (model X.prog X.w) X.A X.xe (evalEach es X.env) acc (fun out s' => out.length ≤ sizeLine ∧ ∃ H', Inv X pins σ H' s' ∧ k H') s
def fNil : TF := fun _ H k => k H
def fCons (t u : TF) : TF := fun σ H k => t σ H fun H1 => u σ H1 k
/-- what may stand in the braces -/
def okF (v : V) : Prop := (∃ i, v = .int i ∧ i.natAbs.log2 < 1920) ∨ ∃ y, v = .str y ∧ y.length ≤ 10000
def fVal (te : TE) : TF := fun σ H k => te σ H fun v H1 => okF v ∧ k H1
def tFStr (t : TF) : TE := fun σ H Q => t σ H fun H1 => ∀ z, Q (.str z) H1
section
variable {X : Cx} {e : Expr} {es : List Expr} {te : TE} {t u : TF} {pos : Pos}
theorem pf_str {j} (h : x.length ≤ 10000) : PF X (.Constant (.str x) j pos) fNil := fun _ _ _ H _ I hk => Calls.Constant_str ⟨x, _, H, rfl, h, I.tok _, hk⟩
theorem pf_val (he : PE X e te) : PF X (.FormattedValue e (-1) none pos) (fVal te) := by
  intro pins s σ H k I h
  refine FormattedValue_plain (thn (he pins s σ H _ I h) fun v s1 ⟨x, H1, I1, r1, ok, hk⟩ => ?_)
  rcases ok with ⟨i, rfl, hi⟩ | ⟨y, rfl, hy⟩
  · obtain ⟨t, rfl⟩ := r1
    refine formatField_int_small hi ⟨_, _, H1, rfl, ?_, I1.tok _, hk⟩
    have := int_text_length_le (k := 1920) (by decide) hi
    show (Str.ofString (toString i)).length ≤ 10000
    rw [PySem.ofString_length]
    omega
  · obtain ⟨t, rfl⟩ := r1
    exact formatField_str (fun t' tk => ⟨y, t', H1, rfl, hy, I1.tok tk, hk⟩) (by rw [sizeLine_eq]; omega)
theorem pfs_nil : PFs X [] fNil := fun _ _ _ H _ _ I hz hk => ⟨by simpa using hz, H, I, hk⟩
theorem pfs_cons (h1 : PF X e t) (h2 : PFs X es u) (hs : evalEach (e :: es) X.env = eval e X.env :: evalEach es X.env := by rfl) : PFs X (e :: es) (fCons t u) := by
  intro pins s σ H k acc I hz h
  rw [hs]
  refine thn (h1 pins s σ H _ I h) fun v s1 ⟨y, tk, H1, e1, hy, I1, hk⟩ => ⟨y, tk, e1, ?_, ?_⟩
  · rw [strLen_append]; rw [List.length_cons] at hz; omega
  · exact h2 pins s1 σ H1 k _ I1 (by rw [strLen_append]; rw [List.length_cons] at hz; omega) hk
theorem pe_fstr (h : PFs X (e :: e' :: es) t) (hl : es.length ≤ 100) : PE X (.JoinedStr (e :: e' :: es) pos) (tFStr t) := by
  intro pins s σ H Q I h'
  refine wpAny_JoinedStr ?_
  have q := h pins s σ H _ Str.empty I (by rw [sizeLine_eq]; simp only [List.length_cons]; have : Str.empty.length = 0 := rfl; omega) h'
  have mono : ∀ (ps : List (Sem Value)) (acc : Str) (Q1 Q2 : Str → Shared → Prop) (s : Shared), (∀ o s, Q1 o s → Q2 o s) → Joins (model X.prog X.w) X.A X.xe ps acc Q1 s → Joins (model X.prog X.w) X.A X.xe ps acc Q2 s := by
    intro ps
    induction ps with
    | nil => intro acc Q1 Q2 s m z; exact m _ _ z
    | cons p r ih => intro acc Q1 Q2 s m z; exact thn z fun v s1 ⟨y, tk, e1, hz, z1⟩ => ⟨y, tk, e1, hz, ih _ _ _ _ m z1⟩
  refine mono _ _ _ _ _ (fun out s1 ⟨hz, H1, I1, hk⟩ => ⟨hz, .str out, H1, I1.tok _, ⟨_, rfl⟩, hk out⟩) q
end
/-! ### x is True, x is not False -/
section
variable {X : Cx}
/-- a bool beside a bool -/
theorem op_isB : OpR X (compareOp .Is) (fun x y H Q => ∃ a b, x = .bl a ∧ y = .bl b ∧ Q (.bl (a == b)) H) := by
  intro pins s σ H x y v u Q I rx ry h
  obtain ⟨a, b, rfl, rfl, q⟩ := h
  cases rx; cases ry
  exact is_bool ⟨.bl _, H, I, rfl, q⟩
theorem op_isnotB : OpR X (compareOp .IsNot) (fun x y H Q => ∃ a b, x = .bl a ∧ y = .bl b ∧ Q (.bl (a != b)) H) := by
  intro pins s σ H x y v u Q I rx ry h
  obtain ⟨a, b, rfl, rfl, q⟩ := h
  cases rx; cases ry
  exact isnot_bool ⟨.bl _, H, I, rfl, q⟩
/-! ### list(d) -/
theorem call_listD (hc : X.calm = true) : CallR X (.type "list") (fun xs H Q => ∃ a kvs, xs = [.ref a] ∧ Rd H a (.dK kvs) ∧ ∀ l, H l = none → Q (.ref l) (upd H l (.lst (kvs.map fun kv => kV kv.1)))) := by
  intro pins s σ H xs us Q I r h
  obtain ⟨a, kvs, rfl, ha, q⟩ := h
  obtain ⟨u, rfl, ru⟩ := vals1 r
  cases (show u = Value.ref a from ru)
  obtain ⟨hz, lo, vs, kv, o, es, ep, e1, e2⟩ := dk_rd I.hok ha
  have hl : kvs.length = vs.length := KV.length kv
  refine PySem.W.kdl_call (PySem.W.kdl_dict (knd := mixKind X.prog X.w) (kvs := vs) (ep := ep) lo) (I.ok.hd hc) ⟨o, es, e1, e2⟩ (by rw [← hl]; exact hz) fun h' tk acc c hk hS hacc => ?_
  have hf : H s.heap.objs.size = none := I.hok.fresh (Nat.le_refl _)
  refine ⟨.ref s.heap.objs.size, upd H s.heap.objs.size (.lst (kvs.map fun kv => kV kv.1)), I.laid (t' := tk) hk (Nat.le_refl _) ?_, rfl, q _ hf⟩
  obtain ⟨accl⟩ := acc
  refine ⟨by rw [List.length_map]; exact hz, accl, c, ?_, hS⟩
  have hlen : accl.length = vs.length := by have := hacc.1; simpa using this
  refine vals_of_get (by rw [List.length_map, hl, hlen]) fun j x u hx hu => ?_
  obtain ⟨k, y, hk1, hk2⟩ := hacc.2 j u (by simpa using hu)
  have ek := congrArg (·[j]?) (KV.keys kv)
  simp only [List.getElem?_map, hk1, Option.map_some] at ek
  rw [List.getElem?_map] at hx
  cases hkv : kvs[j]? with
  | none => rw [hkv] at hx; cases hx
  | some p =>
    rw [hkv] at hx ek
    have e1 : kV p.1 = x := Option.some.inj hx
    have e2 : p.1 = k := Option.some.inj ek
    rw [← e1, e2]
    rcases keyIs_shape hk2 with ⟨i, t, rfl, rfl⟩ | ⟨z, t, rfl, rfl⟩
    · exact ⟨t, rfl⟩
    · exact ⟨t, rfl⟩
end
end L2

set_option Elab.async false
set_option linter.all false
set_option maxRecDepth 100000
/-! made data: what a value is worth, == of two of them -/
namespace L2
open PySem PySem.Spec PyProof.Rows
inductive Dt where
  | non | bl (b : Bool) | int (i : Int) | str (x : Str) | lst (xs : List Dt) | tup (xs : List Dt)
mutual
/-- the value x is worth the data d in the heap -/
inductive Is (K : PySem.W.Frag) (H : Hp) : V → Dt → Prop where
  | non : Is K H .non .non
  | bl (b : Bool) : Is K H (.bl b) (.bl b)
  | int (i : Int) : Is K H (.int i) (.int i)
  | str (x : Str) : Is K H (.str x) (.str x)
  | lst {a : Addr} {xs : List V} {ds : List Dt} (h : SqL K H a xs) (hs : IsAll K H xs ds) : Is K H (.ref a) (.lst ds)
  | tup {a : Addr} {xs : List V} {ds : List Dt} (h : SqT K H a xs) (hs : IsAll K H xs ds) : Is K H (.ref a) (.tup ds)
inductive IsAll (K : PySem.W.Frag) (H : Hp) : List V → List Dt → Prop where
  | nil : IsAll K H [] []
  | cons {x : V} {xs : List V} {d : Dt} {ds : List Dt} (h : Is K H x d) (t : IsAll K H xs ds) : IsAll K H (x :: xs) (d :: ds)
end
mutual
def eqD : Dt → Dt → Bool
  | .non, .non => true
  | .bl a, .bl b => a == b
  | .bl a, .int b => (if a then 1 else 0) == b
  | .int a, .bl b => a == (if b then 1 else 0)
  | .int a, .int b => a == b
  | .str a, .str b => a == b
  | .lst xs, .lst ys => eqDs xs ys
  | .tup xs, .tup ys => eqDs xs ys
  | _, _ => false
def eqDs : List Dt → List Dt → Bool
  | [], [] => true
  | x :: xs, y :: ys => eqD x y && eqDs xs ys
  | _, _ => false
end
mutual
theorem eqD_refl : ∀ d : Dt, eqD d d = true
  | .non => by simp [eqD]
  | .bl _ => by simp [eqD]
  | .int _ => by simp [eqD]
  | .str _ => by simp [eqD]
  | .lst xs => by rw [eqD]; exact eqDs_refl xs
  | .tup xs => by rw [eqD]; exact eqDs_refl xs
theorem eqDs_refl : ∀ ds : List Dt, eqDs ds ds = true
  | [] => by simp [eqDs]
  | d :: ds => by rw [eqDs, eqD_refl d, eqDs_refl ds]; rfl
end
section
variable {X : Cx} {pins : List (Addr × Obj)} {σ : St} {H : Hp} {s : Shared}
mutual
def toPy : Dt → PyData
  | .non => .none
  | .bl b => .bool b
  | .int i => .int i
  | .str x => .str x
  | .lst xs => .list (toPys xs)
  | .tup xs => .tuple (toPys xs)
def toPys : List Dt → List PyData
  | [] => []
  | d :: ds => toPy d :: toPys ds
end
mutual
theorem eqv_toPy : ∀ d e : Dt, PyData.eqv (toPy d) (toPy e) = eqD d e
  | .non, e => by cases e <;> simp [toPy, eqD, PyData.eqv]
  | .bl _, e => by cases e <;> simp [toPy, eqD, PyData.eqv]
  | .int _, e => by cases e <;> simp [toPy, eqD, PyData.eqv]
  | .str _, e => by cases e <;> simp [toPy, eqD, PyData.eqv]
  | .lst xs, .lst ys => by rw [toPy, toPy, PyData.eqv, eqD]; exact eqv_toPys xs ys
  | .tup xs, .tup ys => by rw [toPy, toPy, PyData.eqv, eqD]; exact eqv_toPys xs ys
  | .lst _, .non => by simp [toPy, eqD, PyData.eqv]
  | .lst _, .bl _ => by simp [toPy, eqD, PyData.eqv]
  | .lst _, .int _ => by simp [toPy, eqD, PyData.eqv]
  | .lst _, .str _ => by simp [toPy, eqD, PyData.eqv]
  | .lst _, .tup _ => by simp [toPy, eqD, PyData.eqv]
  | .tup _, .non => by simp [toPy, eqD, PyData.eqv]
  | .tup _, .bl _ => by simp [toPy, eqD, PyData.eqv]
  | .tup _, .int _ => by simp [toPy, eqD, PyData.eqv]
  | .tup _, .str _ => by simp [toPy, eqD, PyData.eqv]
  | .tup _, .lst _ => by simp [toPy, eqD, PyData.eqv]
theorem eqv_toPys : ∀ ds es : List Dt, PyData.eqvAll (toPys ds) (toPys es) = eqDs ds es
  | [], [] => by simp [toPys, eqDs, PyData.eqvAll]
  | [], _ :: _ => by simp [toPys, eqDs, PyData.eqvAll]
  | _ :: _, [] => by simp [toPys, eqDs, PyData.eqvAll]
  | d :: ds, e :: es => by rw [toPys, toPys, PyData.eqvAll, eqDs, eqv_toPy d e, eqv_toPys ds es]
end
mutual
theorem Is.reads (I : Inv X pins σ H s) : ∀ {d : Dt} {x : V} {u : Value}, Is X.K H x d → RelV x u → ∃ as, Reads s.heap u (toPy d) as
  | _, _, _, .non, r => by cases r; exact ⟨_, .none⟩
  | _, _, _, .bl b, r => by cases r; exact ⟨_, .bool b⟩
  | _, _, _, .int i, r => by obtain ⟨t, rfl⟩ := r; exact ⟨_, .int i t⟩
  | _, _, _, .str i, r => by obtain ⟨t, rfl⟩ := r; exact ⟨_, .str i t⟩
  | _, _, _, .lst h hs, r => by
    cases r
    obtain ⟨its, r1, ⟨o, n', e1, e2, e3, e4⟩, _⟩ := I.list h
    obtain ⟨as, q⟩ := IsAll.reads I hs r1
    rw [toPy]
    exact ⟨_, .list e1 e2 e4 (by simpa using q)⟩
  | _, _, _, .tup h hs, r => by
    cases r
    obtain ⟨its, r1, ⟨o, e1, e2, n', e4⟩, _⟩ := I.tuple h
    obtain ⟨as, q⟩ := IsAll.reads I hs r1
    rw [toPy]
    exact ⟨_, .tuple e1 e2 e4 (by simpa using q)⟩
theorem IsAll.reads (I : Inv X pins σ H s) : ∀ {ds : List Dt} {xs : List V} {us : List Value}, IsAll X.K H xs ds → Vals xs us → ∃ as, ReadsAll s.heap us (toPys ds) as
  | _, _, _, .nil, r => by cases r; exact ⟨_, .nil⟩
  | _, _, _, .cons h t, r => by
    cases r with
    | cons r1 r2 =>
      obtain ⟨as, q1⟩ := Is.reads I h r1
      obtain ⟨bs, q2⟩ := IsAll.reads I t r2
      exact ⟨_, .cons q1 q2⟩
end
/-- == and != of two values by their data -/
def shD (d : Dt) : Prop := SeqAt.shaped (toPy d) = true
inductive rEqD (K : PySem.W.Frag) (neg : Bool) (x : V) (y : V) (H : Hp) (Q : VK) : Prop where
  | mk(d)(e)(_ : Is K H x d)(_ : Is K H y e)(_ : shD d)(_ : shD e)(_ : Q (.bl (if neg then !eqD d e else eqD d e)) H)
theorem op_eqD (hu : X.A.units + 64 < cLine) : OpR X (compareOp .Eq) (rEqD X.K false) := by
  intro pins s σ H x y v u Q I rx ry h
  obtain ⟨d, e, h1, h2, s1, s2, q⟩ := h
  obtain ⟨as, r1⟩ := h1.reads I rx
  obtain ⟨bs, r2⟩ := h2.reads I ry
  exact eq_dataH r1 r2 s1 s2 hu (by rw [eqv_toPy]; exact ⟨.bl _, H, I, rfl, q⟩)
theorem op_neD (hu : X.A.units + 64 < cLine) : OpR X (compareOp .NotEq) (rEqD X.K true) := by
  intro pins s σ H x y v u Q I rx ry h
  obtain ⟨d, e, h1, h2, s1, s2, q⟩ := h
  obtain ⟨as, r1⟩ := h1.reads I rx
  obtain ⟨bs, r2⟩ := h2.reads I ry
  exact ne_dataH r1 r2 s1 s2 hu (by rw [eqv_toPy]; exact ⟨.bl _, H, I, rfl, q⟩)
end
mutual
theorem Is.same {K : PySem.W.Frag} {H H' : Hp} (e : Same H H') : ∀ {d : Dt} {x : V}, Is K H x d → Is K H' x d
  | _, _, .non => .non
  | _, _, .bl b => .bl b
  | _, _, .int i => .int i
  | _, _, .str i => .str i
  | _, _, .lst h hs => .lst (e.seq h) (IsAll.same e hs)
  | _, _, .tup h hs => .tup (by
      rcases h with (h | ⟨o, h⟩) | h
      · exact .inl (.inl (e _ _ h))
      · exact .inl (.inr ⟨o, e _ _ h⟩)
      · exact .inr h) (IsAll.same e hs)
theorem IsAll.same {K : PySem.W.Frag} {H H' : Hp} (e : Same H H') : ∀ {ds : List Dt} {xs : List V}, IsAll K H xs ds → IsAll K H' xs ds
  | _, _, .nil => .nil
  | _, _, .cons h t => .cons (Is.same e h) (IsAll.same e t)
end
end L2

set_option Elab.async false
set_option linter.all false
set_option maxRecDepth 100000
/-! defs, methods and classes as one fact each; short forms -/
namespace L2
open PySem PySem.Spec PyProof.Rows
section
variable {P : Program} {w : World} {K : PySem.W.Frag} {mg : Str → Option Value} {base : Heap} {x m : Str} {k j : Nat} {ps : List Str} {sp : Sp} {C : Addr}
/-- a def of the text, called by its name, keeps sp -/
def DefOk (P : Program) (w : World) (K : PySem.W.Frag) (mg : Str → Option Value) (base : Heap) (x : Str) (k : Nat) (ps : List Str) (sp : Sp) : Prop :=
  ∃ (f : Addr) (fd : FuncData), FnOk P w K mg base (CX1 P w) k f fd ps sp ∧ mg x = some (.ref f) ∧ PySem.W.keepIn K (.ref f) = true ∧ Binds K fd ps []
/-- a method of the class at C keeps sp -/
def MethOk (P : Program) (w : World) (K : PySem.W.Frag) (mg : Str → Option Value) (base : Heap) (C : Addr) (m : Str) (k : Nat) (ps : List Str) (sp : Sp) : Prop :=
  ∃ (f : Addr) (fd : FuncData), FnOk P w K mg base (CX1 P w) k f fd ps sp ∧ Meth K C m f ∧ Binds K fd ps []
/-- C(..) keeps sp (of __init__) -/
def MakeOk (P : Program) (w : World) (K : PySem.W.Frag) (mg : Str → Option Value) (base : Heap) (x : Str) (C : Addr) (k : Nat) (ps : List Str) (sp : Sp) : Prop :=
  ∃ (f : Addr) (fd : FuncData), FnOk P w K mg base (CX1 P w) k f fd ps sp ∧ Mk K C f ∧ mg x = some (.ref C) ∧ Binds K fd ps []
/-- a def as the top has made it -/
structure DefAt (K : PySem.W.Frag) (mg : Str → Option Value) (x : Str) (st : Stmt) (f : Addr) (fd : FuncData) : Prop where
  fn : Fun K x x st f fd
  nm : mg x = some (.ref f)
end
section
variable {X : Cx} {k : Nat} {C : Addr} {ps : List Str} {sp : Sp} {E : XK} {x m : Str} {p pos apos : Pos} {e o : Expr} {es : List Expr} {ta : TE} {t : TA}
theorem pe_fn (D : DefOk X.prog X.w X.K X.mg X.base x k ps sp) (hr : Room k X.A) (hx : Passes (CX1 X.prog X.w) X E) (hg : Gl X x) (ha : PA X (e :: es) t) (hdb : (x == ("__debug__" : Str)) = false := by decide)
    (he : starEach (e :: es) X.env = (false, eval e X.env) :: starEach es X.env := by rfl) (hpl : (backTo pos (starEach es X.env)).any (·.1) = false := by rfl) : PE X (.Call (.Name x p) (e :: es) [] pos) (tCall sp [] E t) := by
  obtain ⟨f, fd, F, hm, kp, b⟩ := D
  exact pe_call F hr hg hm kp b .nil hx ha hdb he hpl
theorem pe_mt (he : PE X o ta) (c : Cls X.K C) (M : MethOk X.prog X.w X.K X.mg X.base C m k ps sp) (hr : Room k X.A) (hx : Passes (CX1 X.prog X.w) X E) (ha : PA X (e :: es) t)
    (hst : starEach (e :: es) X.env = (false, eval e X.env) :: starEach es X.env := by rfl) (hpl : (backTo pos (starEach es X.env)).any (·.1) = false := by rfl)
    (ht : eval (.Call (.Attribute o m apos) (e :: es) [] pos) X.env = (do
      let ov ← eval o X.env
      standAt apos.atName
      let (f, first) ← holding [ov] (getMethod ov m pl)
      callWith pos f first (backTo pos (starEach (e :: es) X.env)) (backToKw pos (keywordEach [] X.env))) := by rfl) : PE X (.Call (.Attribute o m apos) (e :: es) [] pos) (tMeth C m sp [] E ta t) := by
  obtain ⟨f, fd, F, hm, b⟩ := M
  exact pe_meth he c hm F hr b .nil hx ha hst hpl ht
theorem pe_mt0 (he : PE X o ta) (c : Cls X.K C) (M : MethOk X.prog X.w X.K X.mg X.base C m k ps sp) (hr : Room k X.A) (hx : Passes (CX1 X.prog X.w) X E)
    (ht : eval (.Call (.Attribute o m apos) [] [] pos) X.env = (do
      let ov ← eval o X.env
      standAt apos.atName
      let (f, first) ← holding [ov] (getMethod ov m pl)
      callWith pos f first (backTo pos (starEach [] X.env)) (backToKw pos (keywordEach [] X.env))) := by rfl) : PE X (.Call (.Attribute o m apos) [] [] pos) (tMeth C m sp [] E ta tNil) := by
  obtain ⟨f, fd, F, hm, b⟩ := M
  exact pe_meth0 he c hm F hr b .nil hx ht
theorem pe_new0 (M : MakeOk X.prog X.w X.K X.mg X.base x C k ps sp) (hr : Room (k + 1) X.A) (hx : Passes (CX1 X.prog X.w) X E) (hg : Gl X x) (hdb : (x == ("__debug__" : Str)) = false := by decide) : PE X (.Call (.Name x p) [] [] pos) (tMake C sp [] E tNil) := by
  obtain ⟨f, fd, F, mk, hm, b⟩ := M
  exact pe_make0 mk F hr hg hm b .nil hx hdb
/-- a constant of the module that is an int -/
theorem pe_gint (hg : Gl X x) (hm : ∃ t, X.mg x = some (.int i t)) (hd : (x == ("__debug__" : Str)) = false := by decide) : PE X (.Name x pos) (tC (.int i)) := by
  obtain ⟨t, hm⟩ := hm
  exact pe_glob hg hm ⟨t, rfl⟩ hd
/-- a class of the text, as a value -/
theorem pe_gcls (hg : Gl X x) (hm : X.mg x = some (.ref C)) (hd : (x == ("__debug__" : Str)) = false := by decide) : PE X (.Name x pos) (tC (.ref C)) := pe_glob hg hm (show RelV (.ref C) (.ref C) from rfl) hd
end
end L2
namespace L2
open PySem PySem.Spec PyProof.Rows
/-- xs.append(e) as a statement -/
inductive tAppI (te : TE) (D : Ends) (σ : L2.St) (x : V) (H1 : Hp) : Prop where
  | mk(l)(xs)(_ : x = .ref l)(_ : H1 l = some (.lst xs))(_ : te σ H1 fun y H2 => ∃ ys, H2 l = some (.lst ys) ∧ ys.length < sizeLine ∧ D.nx σ (upd H2 l (.lst (ys ++ [y]))))
def tApp (to te : TE) : TS := fun D σ H => to σ H fun x H1 => tAppI te D σ x H1
theorem ps_append (ho : PE X o to) (he : PE X e te) (hbase : attributeBase o "append" X.env (eval o X.env) = eval o X.env := by rfl)
    (hst : starEach [e] X.env = [(false, eval e X.env)] := by rfl)
    (hline : (apos.endLine == cpos.line) = true := by rfl) (hs : swapsWith (.Call (.Attribute o "append" apos) [e] [] cpos) none pos.line X.env = pure false := by rfl) : PS X (.Expr (.Call (.Attribute o "append" apos) [e] [] cpos) pos) (tApp to te) := by
  intro pins s σ H D I h
  refine wpAny_Expr ?_ I.quiet
  refine wpAny_Call_method_late hbase (by rw [hst]; rfl) hline rfl (thn (ho pins s σ H _ I h) fun v s1 ⟨x, H1, I1, r1, l, xs, e1, hl, q1⟩ => ?_)
  subst e1
  obtain ⟨h1, h2⟩ := tyV_is (T := "list") I1 r1 (.inl ⟨rfl, _, SqL.of hl⟩)
  refine ⟨"list", "list.append", PySem.F.plainAttrs_list, PySem.F.slot_list_append, PySem.F.type_list_append, h1, h2, ?_⟩
  rw [hst]
  refine Calls.callWith_builtin rfl (Calls.evalArgs_plain ?_)
  refine Calls.spliced_cons (thn (he pins s1 σ H1 _ I1 q1) fun u s2 ⟨y, H2, I2, r2, ys, hl2, hz, q2⟩ => Calls.spliced_nil ?_)
  refine thn (mt_append pins s2 σ H2 (.ref l) [y] v [u] (fun v H3 => v = .non ∧ D.nx σ H3) I2 r1 (.cons r2 .nil) ⟨l, ys, y, rfl, rfl, hl2, hz, rfl, q2⟩) fun z s3 ⟨zv, H3, I3, rz, ez, q3⟩ => ?_
  subst ez
  cases rz
  exact ⟨σ, H3, I3, q3⟩
end L2

set_option Elab.async false
set_option linter.all false
set_option maxRecDepth 100000
/-! the rules whose reading names the written part, with that part by its own name -/
namespace L2
open PySem PySem.Spec PyProof.Rows
section
variable {X : Cx} {K : PySem.W.Frag}
theorem ix_listK (hK : X.K = K) : IxR X (rIxL K) := hK ▸ ix_list
theorem ix_tupK (hK : X.K = K) : IxR X (rIxT K) := hK ▸ ix_tup
theorem call_len_seqK (hK : X.K = K) : CallR X (.builtin "len") (fun xs H Q => ∃ p ys, xs = [.ref p] ∧ (SqL K H p ys ∨ SqT K H p ys) ∧ Q (.int ys.length) H) := hK ▸ call_len_seq
theorem call_isiK (hK : X.K = K) : CallR X (.builtin "isinstance") (rIsI K) := hK ▸ call_isi
theorem op_in_seqK (hK : X.K = K) : OpR X (compareOp .In) (rIn K false) := hK ▸ op_in_seq
theorem op_eqDK (hK : X.K = K) (hu : X.A.units + 64 < cLine) : OpR X (compareOp .Eq) (rEqD K false) := hK ▸ op_eqD hu
theorem op_neDK (hK : X.K = K) (hu : X.A.units + 64 < cLine) : OpR X (compareOp .NotEq) (rEqD K true) := hK ▸ op_neD hu
variable {o e l tg value a : Expr} {f : Str} {pos pos' : Pos} {ta tv tl : TE} {es : List Expr} {k n : Nat} {t : TGs}
theorem pe_fldK (hK : X.K = K) (he : PE X e ta) (hb : attributeBase e f X.env (eval e X.env) = eval e X.env) : PE X (.Attribute e f pos) (tFld K ta f) := hK ▸ pe_fld he hb
theorem ps_fldK (hK : X.K = K) (ha : PE X o ta) (hv : PE X value tv) (hs : swapsWith value (some (.Attribute o f pos')) pos.line X.env = pure false) : PS X (.Assign [.Attribute o f pos'] value pos) (sFld K ta tv f) := hK ▸ ps_fld ha hv hs
theorem pi_listK (hK : X.K = K) (hl : PE X l tl) : PI X tg l (iList K tl) := hK ▸ pi_list hl
theorem pg_tupK (hK : X.K = K) (hc : X.calm = true) (h : PGs X es t) (hn : (assignEach es X.env).length = n := by rfl) (hst : (assignEach es X.env).findIdx? (·.1) = none := by rfl) : PG X (.Tuple es k pos) (gTup K n t) := hK ▸ pg_tup hc h hn hst
end
end L2

set_option Elab.async false
set_option linter.all false
set_option maxRecDepth 100000
/-! more calls, and what every law's text uses -/
namespace L2
open PySem PySem.Spec PyProof.Rows
section
variable {X : Cx} {K : PySem.W.Frag}
end
end L2
namespace G
open PySem PySem.Spec PyProof.Rows L2
theorem cls_of_mro {K : PySem.W.Frag} {C : Addr} {v : Value} {r : Bool} (e : PySem.W.mroIn K C v = some r) : (PySem.W.clsIn K C).isSome = true := by
  obtain ⟨cd, h, _⟩ := Option.bind_eq_some_iff.mp e
  rw [h]; rfl
/-! ### lists of tuples -/
/-! ### the promises of the laws' own small defs -/
/-- the law itself: any script, True -/
inductive spLaw (K : PySem.W.Frag) (vs : List V) (H : Hp) (Q : VK) (_ : XK) : Prop where
  | mk(b : Addr)(ns : List Int)(_ : vs = [.ref b])(_ : SqL K H b (ns.map V.int))(_ : ns.length ≤ 63)(_ : ∀ H', Q (.bl true) H')
end G

set_option Elab.async false
set_option linter.all false
set_option maxRecDepth 100000
namespace K06
open PySem PySem.Spec PyProof.Rows L2 G
def top (i : Nat) : Stmt := PySem.Challenge.pw_whistlebook_k06_roster.main.body.getD i (.Pass ⟨0, 0, 0, 0⟩)
structure Ad where
  cBookError : Addr
  cOutOfRange : Addr
  cKnownReferee : Addr
  cTooManyReferees : Addr
  cUnknownReferee : Addr
  cRoster : Addr
structure Tx (K : PySem.W.Frag) (mg : Str → Option Value) (a : Ad) : Prop where
  c_Roster : Cls K a.cRoster
  n_entries : NoAttr K a.cRoster "entries"
  x_OutOfRange : ExcC K mg "OutOfRange" a.cOutOfRange
  x_KnownReferee : ExcC K mg "KnownReferee" a.cKnownReferee
  x_TooManyReferees : ExcC K mg "TooManyReferees" a.cTooManyReferees
  x_UnknownReferee : ExcC K mg "UnknownReferee" a.cUnknownReferee
  z_len : mg "len" = none
  z_list : mg "list" = none
  z_isinstance : mg "isinstance" = none
  z_int : mg "int" = none
  z_bool : mg "bool" = none
  z_range : mg "range" = none
  z_ValueError : mg "ValueError" = none
  gc_BookError : mg "BookError" = some (.ref a.cBookError)
  gc_OutOfRange : mg "OutOfRange" = some (.ref a.cOutOfRange)
  gc_KnownReferee : mg "KnownReferee" = some (.ref a.cKnownReferee)
  gc_TooManyReferees : mg "TooManyReferees" = some (.ref a.cTooManyReferees)
  gc_UnknownReferee : mg "UnknownReferee" = some (.ref a.cUnknownReferee)
  gc_Roster : mg "Roster" = some (.ref a.cRoster)
  ca_BookError : Catch K a.cBookError
  ca_UnknownReferee : Catch K a.cUnknownReferee
  ei_OutOfRange : ExcI K a.cOutOfRange
  m_OutOfRange_BookError : PySem.W.mroIn K a.cOutOfRange (.ref a.cBookError) = some true
  k_OutOfRange_OutOfRange : PySem.W.kitOne K (.ref a.cOutOfRange) (.ref a.cOutOfRange) = some true
  k_OutOfRange_KnownReferee : PySem.W.kitOne K (.ref a.cOutOfRange) (.ref a.cKnownReferee) = some false
  k_OutOfRange_TooManyReferees : PySem.W.kitOne K (.ref a.cOutOfRange) (.ref a.cTooManyReferees) = some false
  k_OutOfRange_ValueError : PySem.W.kitOne K (.ref a.cOutOfRange) (.type "ValueError") = some true
  ei_KnownReferee : ExcI K a.cKnownReferee
  m_KnownReferee_BookError : PySem.W.mroIn K a.cKnownReferee (.ref a.cBookError) = some true
  k_KnownReferee_OutOfRange : PySem.W.kitOne K (.ref a.cKnownReferee) (.ref a.cOutOfRange) = some false
  k_KnownReferee_KnownReferee : PySem.W.kitOne K (.ref a.cKnownReferee) (.ref a.cKnownReferee) = some true
  k_KnownReferee_TooManyReferees : PySem.W.kitOne K (.ref a.cKnownReferee) (.ref a.cTooManyReferees) = some false
  k_KnownReferee_ValueError : PySem.W.kitOne K (.ref a.cKnownReferee) (.type "ValueError") = some true
  ei_TooManyReferees : ExcI K a.cTooManyReferees
  m_TooManyReferees_BookError : PySem.W.mroIn K a.cTooManyReferees (.ref a.cBookError) = some true
  k_TooManyReferees_OutOfRange : PySem.W.kitOne K (.ref a.cTooManyReferees) (.ref a.cOutOfRange) = some false
  k_TooManyReferees_KnownReferee : PySem.W.kitOne K (.ref a.cTooManyReferees) (.ref a.cKnownReferee) = some false
  k_TooManyReferees_TooManyReferees : PySem.W.kitOne K (.ref a.cTooManyReferees) (.ref a.cTooManyReferees) = some true
  k_TooManyReferees_ValueError : PySem.W.kitOne K (.ref a.cTooManyReferees) (.type "ValueError") = some true
  ei_UnknownReferee : ExcI K a.cUnknownReferee
  m_UnknownReferee_BookError : PySem.W.mroIn K a.cUnknownReferee (.ref a.cBookError) = some true
  m_UnknownReferee_UnknownReferee : PySem.W.mroIn K a.cUnknownReferee (.ref a.cUnknownReferee) = some true
  k_UnknownReferee_OutOfRange : PySem.W.kitOne K (.ref a.cUnknownReferee) (.ref a.cOutOfRange) = some false
  k_UnknownReferee_KnownReferee : PySem.W.kitOne K (.ref a.cUnknownReferee) (.ref a.cKnownReferee) = some false
  k_UnknownReferee_TooManyReferees : PySem.W.kitOne K (.ref a.cUnknownReferee) (.ref a.cTooManyReferees) = some false
  k_UnknownReferee_ValueError : PySem.W.kitOne K (.ref a.cUnknownReferee) (.type "ValueError") = some true
  g_MOST_NUMBER : ∃ t, mg "MOST_NUMBER" = some (.int 999 t)
  g_MOST_GRADE : ∃ t, mg "MOST_GRADE" = some (.int 9 t)
  g_MOST_CLUB : ∃ t, mg "MOST_CLUB" = some (.int 99 t)
  g_MOST_REFEREES : ∃ t, mg "MOST_REFEREES" = some (.int 30 t)
end K06

set_option Elab.async false
set_option linter.all false
set_option maxRecDepth 100000
set_option maxHeartbeats 4000000
namespace K06
open PySem PySem.Spec PyProof.Rows L2 G
local macro_rules | `(tactic| walk_at "rd") => `(tactic| repeat (first | (refine ⟨_, rfl, ?_⟩) | (refine ⟨_, _, rfl, rfl, ?_⟩) | (refine And.intro (show CMul _ _ from Or.inr (And.intro (by decide) (by decide))) ?_) | (refine And.intro (show CMul _ _ from Or.inl (And.intro (by decide) (by decide))) ?_) | (refine And.intro (show CDiv _ _ from (And.intro (by decide) (by decide))) ?_) | (refine And.intro (show CPow _ _ from (And.intro (by decide) (And.intro (by decide) (by decide)))) ?_) | (refine And.intro (show (0 : Int) < _ from (by decide)) ?_)))
local macro_rules | `(tactic| walk_at "if") => `(tactic| dsimp only [gName, List.set])
local macro_rules | `(tactic| walk_at "ar") => `(tactic| (intro _ _ _ _ h; first | (cases h; subst_vars; rfl) | repeat (first | (obtain ⟨h1, _⟩ := h; subst h1; rfl) | (obtain ⟨_, h⟩ := h))))
section
variable {P : Program} {w : World} {K : PySem.W.Frag} {mg : Str → Option Value} {base : Heap} {a : Ad} {f : Addr} {fd : FuncData}
theorem sz1 : 1 ≤ sizeLine := by decide
theorem sz2 : 2 ≤ sizeLine := by decide
theorem sz3 : 3 ≤ sizeLine := by decide
theorem sz4 : 4 ≤ sizeLine := by decide
theorem itD {p : Prop} [Decidable p] {A B : Prop} (h1 : p → A) (h2 : ¬ p → B) : if decide p = true then A else B := by
  by_cases h : p
  · rw [decide_eq_true h, if_pos rfl]; exact h1 h
  · rw [decide_eq_false h, if_neg (by decide)]; exact h2 h
theorem itN {p : Prop} [Decidable p] {A B : Prop} (h1 : ¬ p → A) (h2 : p → B) : if (!decide p) = true then A else B := by
  by_cases h : p
  · rw [decide_eq_true h]; exact iteF (h2 h)
  · rw [decide_eq_false h]; exact iteT (h1 h)
/-! ### check_range -/
def smallI (i : Int) : Prop := i.natAbs.log2 < 1920
def spRange (a : Ad) : Sp := fun vs H Q E => ∃ v lo m, vs = [.int v, .int lo, .int m] ∧ smallI v ∧ smallI lo ∧ smallI m ∧ (if v < lo ∨ m < v then E (.ref a.cOutOfRange) none H else Q .non H)
abbrev s_check_range : Stmt := top 8
theorem sc_check_range : FnScope ["value", "least", "most"] ["value", "least", "most"] (defScope s_check_range) := ⟨rfl, rfl, rfl, by decide +kernel, rfl, by decide +kernel, by decide +kernel⟩
theorem ok_check_range (F : Fun K "check_range" "check_range" s_check_range f fd) (T : Tx K mg a) : FnOk P w K mg base (CX1 P w) 1 f fd ["value", "least", "most"] (spRange a) := by
  refine F.okX sc_check_range (fun vs H Q E h => ?_) (fun cdv A outer s H vs Q E hr h => ?_)
  · obtain ⟨v, lo, m, rfl, _⟩ := h
    rfl
  obtain ⟨v, lo, m, rfl, s1, s2, s3, h⟩ := h
  have hu := hu_of hr
  refine ⟨_, (pss_one (ps_if (PW.pt (pw_or (pt_cmpR op_lt (pv 0) (pv 1) (nomark _)) (pw_or1 (pt_cmpR op_gt (pv 0) (pv 2) (nomark _)))))
    (pss_one (ps_raise lands_fn rfl T.x_OutOfRange rfl (pa_cons (pe_fstr (pfs_cons (pf_val (pv 0)) (pfs_cons (pf_str (by decide +kernel)) (pfs_cons (pf_val (pv 1)) (pfs_cons (pf_str (by decide +kernel)) (pfs_cons (pf_val (pv 2)) pfs_nil))))) (by decide)) pa_nil)))
    pss_nil)), ?_⟩
  walk_at "rd"
  refine itD (fun h1 => ?_) (fun h1 => ?_)
  · rw [if_pos (Or.inl h1)] at h
    refine iteT ?_
    walk_at "rd"
    refine ⟨.inl ⟨_, rfl, s1⟩, _, rfl, .inl ⟨_, rfl, s2⟩, _, rfl, .inl ⟨_, rfl, s3⟩, fun z => ⟨sz1, h⟩⟩
  · walk_at "rd"
    refine itD (fun h2 => ?_) (fun h2 => ?_)
    · rw [if_pos (Or.inr h2)] at h
      walk_at "rd"
      refine ⟨.inl ⟨_, rfl, s1⟩, _, rfl, .inl ⟨_, rfl, s2⟩, _, rfl, .inl ⟨_, rfl, s3⟩, fun z => ⟨sz1, h⟩⟩
    · rw [if_neg (fun z => z.elim h1 h2)] at h
      exact h
/-! ### the roster -/
abbrev RL := List (Int × Int × Int)
inductive Ents (H : Hp) : RL → List (Key × V) → Prop where
  | nil : Ents H [] []
  | cons {n g c : Int} {t : Addr} {R : RL} {kvs : List (Key × V)} (h : H t = some (.tup [.int g, .int c])) (r : Ents H R kvs) : Ents H ((n, g, c) :: R) ((.inl n, .ref t) :: kvs)
theorem Ents.mono {H H' : Hp} (k : ∀ t xs, H t = some (.tup xs) → H' t = some (.tup xs)) : ∀ {R : RL} {kvs : List (Key × V)}, Ents H R kvs → Ents H' R kvs
  | _, _, .nil => .nil
  | _, _, .cons h r => .cons (k _ _ h) (Ents.mono k r)
theorem Ents.length {H : Hp} : ∀ {R : RL} {kvs : List (Key × V)}, Ents H R kvs → kvs.length = R.length
  | _, _, .nil => rfl
  | _, _, .cons _ r => by simp [Ents.length r]
theorem Ents.keys {H : Hp} : ∀ {R : RL} {kvs : List (Key × V)}, Ents H R kvs → (kvs.map fun kv => kV kv.1) = R.map fun x => V.int x.1
  | _, _, .nil => rfl
  | _, _, .cons _ r => by rw [List.map_cons, List.map_cons, Ents.keys r]; rfl
theorem Ents.snoc {H : Hp} {n g c : Int} {t : Addr} (h : H t = some (.tup [.int g, .int c])) : ∀ {R : RL} {kvs : List (Key × V)}, Ents H R kvs → Ents H (R ++ [(n, g, c)]) (kvs ++ [(.inl n, .ref t)])
  | _, _, .nil => .cons h .nil
  | _, _, .cons h' r => .cons h' (Ents.snoc h r)
theorem Ents.val_none {H : Hp} {n : Int} : ∀ {R : RL} {kvs : List (Key × V)}, Ents H R kvs → n ∉ R.map (·.1) → valV kvs (Sum.inl n : Key) = none
  | _, _, .nil, _ => rfl
  | _, _, .cons (n := m) _ r, h => by
    rw [List.map_cons, List.mem_cons, not_or] at h
    rw [valV_neg (fun e => h.1 (Sum.inl.inj e).symm)]
    exact Ents.val_none r h.2
theorem Ents.val_some {H : Hp} {n g c : Int} : ∀ {R : RL} {kvs : List (Key × V)}, Ents H R kvs → (R.map (·.1)).Nodup → (n, g, c) ∈ R → ∃ t, valV kvs (Sum.inl n : Key) = some (.ref t) ∧ H t = some (.tup [.int g, .int c])
  | _, _, .nil, _, h => by simp at h
  | _, _, .cons (n := m) (g := g') (c := c') (t := t) ht r, nd, h => by
    rw [List.map_cons, List.nodup_cons] at nd
    by_cases e : m = n
    · subst e
      rcases List.mem_cons.mp h with q | q
      · cases q
        exact ⟨t, valV_pos rfl, ht⟩
      · exact absurd (List.mem_map.mpr ⟨_, q, rfl⟩) nd.1
    · rcases List.mem_cons.mp h with q | q
      · cases q; exact absurd rfl e
      · obtain ⟨t', h1, h2⟩ := Ents.val_some r nd.2 q
        exact ⟨t', by rw [valV_neg (fun z => e (Sum.inl.inj z))]; exact h1, h2⟩
/-- a Roster stands at p, its dict at d holds R -/
structure RosAt (C : Addr) (H : Hp) (p d : Addr) (R : RL) : Prop where
  ex : ∃ dx kvs, H p = some (.ins C dx [("entries", .ref d)]) ∧ H d = some (.dK kvs) ∧ Ents H R kvs
  nd : (R.map (·.1)).Nodup
theorem lk_entries {d : Addr} : List.lookup ("entries" : Str) ([("entries", V.ref d)] : List (Str × V)) = some (.ref d) := by simp only [List.lookup_cons, beq_self_eq_true]
abbrev s_Roster___init__ : Stmt := inClass (top 14) 0
theorem sc_Roster___init__ : FnScope ["self"] ["self"] (defScope s_Roster___init__) := ⟨rfl, rfl, rfl, by decide +kernel, rfl, by decide +kernel, by decide +kernel⟩
def spInit (a : Ad) : Sp := fun vs H Q _ => ∃ p dx, vs = [.ref p] ∧ H p = some (.ins a.cRoster dx []) ∧ ∀ d, H d = none → Q .non (upd (upd H d (.dK [])) p (.ins a.cRoster dx [("entries", .ref d)]))
theorem ok_Roster___init__ (F : Fun K "__init__" "Roster.__init__" s_Roster___init__ f fd) (T : Tx K mg a) : FnOk P w K mg base (CX1 P w) 1 f fd ["self"] (spInit a) := by
  refine F.okX sc_Roster___init__ (fun vs H Q E h => ?_) (fun cdv A outer s H vs Q E hr h => ?_)
  · obtain ⟨p, dx, rfl, _⟩ := h
    rfl
  obtain ⟨p, dx, rfl, hp, h⟩ := h
  have hu := hu_of hr
  refine ⟨_, (pss_one (ps_fldK (K := K) rfl (pv 0) pe_dnewK rfl)), ?_⟩
  intro d hd
  exact ⟨_, rfl, p, a.cRoster, dx, [], rfl, (by rw [upd_ne (ne_of_none hp hd)]; exact hp), T.c_Roster, T.n_entries, (by decide), h d hd⟩
abbrev s_Roster_has : Stmt := inClass (top 14) 5
theorem sc_Roster_has : FnScope ["self", "number"] ["self", "number"] (defScope s_Roster_has) := ⟨rfl, rfl, rfl, by decide +kernel, rfl, by decide +kernel, by decide +kernel⟩
def spHas (a : Ad) : Sp := fun vs H Q _ => ∃ p d R n, vs = [.ref p, .int n] ∧ RosAt a.cRoster H p d R ∧ Q (.bl (decide (n ∈ R.map (·.1)))) H
theorem Ents.isSome {H : Hp} {n : Int} {R : RL} {kvs : List (Key × V)} (e : Ents H R kvs) (nd : (R.map (·.1)).Nodup) : (valV kvs (Sum.inl n : Key)).isSome = decide (n ∈ R.map (·.1)) := by
  by_cases h : n ∈ R.map (·.1)
  · obtain ⟨⟨m, g, c⟩, q, rfl⟩ := List.mem_map.mp h
    obtain ⟨t, h1, _⟩ := e.val_some nd q
    rw [h1, decide_eq_true h]; rfl
  · rw [e.val_none h, decide_eq_false h]; rfl
theorem ok_Roster_has (F : Fun K "has" "Roster.has" s_Roster_has f fd) (T : Tx K mg a) : FnOk P w K mg base (CX1 P w) 1 f fd ["self", "number"] (spHas a) := by
  refine F.okX sc_Roster_has (fun vs H Q E h => ?_) (fun cdv A outer s H vs Q E hr h => ?_)
  · obtain ⟨p, d, R, n, rfl, _⟩ := h
    rfl
  obtain ⟨p, d, R, n, rfl, ⟨⟨dx, kvs, hp, hd, en⟩, nd⟩, h⟩ := h
  have hu := hu_of hr
  refine ⟨_, (pss_one (ps_ret (pe_cmp (pc_din hu (pv 1) (pe_fldK (K := K) rfl (pv 0) rfl))))), ?_⟩
  refine ⟨_, rfl, _, rfl, p, a.cRoster, dx, _, _, rfl, hp, T.c_Roster, T.n_entries, lk_entries, d, _, rfl, DGet.k (k := Sum.inl n) hd, ?_⟩
  rw [en.isSome nd]
  exact h
abbrev s_Roster_numbers : Stmt := inClass (top 14) 6
theorem sc_Roster_numbers : FnScope ["self"] ["self"] (defScope s_Roster_numbers) := ⟨rfl, rfl, rfl, by decide +kernel, rfl, by decide +kernel, by decide +kernel⟩
def spNumbers (a : Ad) : Sp := fun vs H Q _ => ∃ p d R, vs = [.ref p] ∧ RosAt a.cRoster H p d R ∧ ∀ l, H l = none → Q (.ref l) (upd H l (.lst (R.map fun x => V.int x.1)))
theorem ok_Roster_numbers (F : Fun K "numbers" "Roster.numbers" s_Roster_numbers f fd) (T : Tx K mg a) : FnOk P w K mg base (CX1 P w) 1 f fd ["self"] (spNumbers a) := by
  refine F.okX sc_Roster_numbers (fun vs H Q E h => ?_) (fun cdv A outer s H vs Q E hr h => ?_)
  · obtain ⟨p, d, R, rfl, _⟩ := h
    rfl
  obtain ⟨p, d, R, rfl, ⟨⟨dx, kvs, hp, hd, en⟩, nd⟩, h⟩ := h
  have hu := hu_of hr
  refine ⟨_, (pss_one (ps_ret (pe_callTy (call_listD rfl) (by rfl) T.z_list PyProof.Rows.boot_list (pa_cons (pe_fldK (K := K) rfl (pv 0) rfl) pa_nil)))), ?_⟩
  refine ⟨_, rfl, p, a.cRoster, dx, _, _, rfl, hp, T.c_Roster, T.n_entries, lk_entries, d, kvs, rfl, .inl hd, fun l hl => ?_⟩
  rw [en.keys]
  exact h l hl
theorem RosAt.no {d : Addr} {m : Str} (h : ¬ m = "entries") : List.lookup m ([("entries", V.ref d)] : List (Str × V)) = none := by
  have e : (m == "entries") = false := beq_eq_false_iff_ne.mpr h
  simp only [List.lookup_cons, e, List.lookup_nil]
def spKnown (a : Ad) : Sp := fun vs H Q E => ∃ p d R n, vs = [.ref p, .int n] ∧ RosAt a.cRoster H p d R ∧ smallI n ∧ if n ∈ R.map (·.1) then Q .non H else E (.ref a.cUnknownReferee) none H
abbrev s_Roster_check_known : Stmt := inClass (top 14) 2
theorem sc_Roster_check_known : FnScope ["self", "number"] ["self", "number"] (defScope s_Roster_check_known) := ⟨rfl, rfl, rfl, by decide +kernel, rfl, by decide +kernel, by decide +kernel⟩
theorem ok_Roster_check_known (F : Fun K "check_known" "Roster.check_known" s_Roster_check_known f fd) (T : Tx K mg a) : FnOk P w K mg base (CX1 P w) 1 f fd ["self", "number"] (spKnown a) := by
  refine F.okX sc_Roster_check_known (fun vs H Q E h => ?_) (fun cdv A outer s H vs Q E hr h => ?_)
  · obtain ⟨p, d, R, n, rfl, _⟩ := h
    rfl
  obtain ⟨p, d, R, n, rfl, RA, sn, h⟩ := h
  have hu := hu_of hr
  refine ⟨_, (pss_one (ps_if (pt_cmp (pc_dnotin hu (pv 1) (pe_fldK (K := K) rfl (pv 0) rfl)))
    (pss_one (ps_raise lands_fn rfl T.x_UnknownReferee rfl (pa_cons (pe_fstr (pfs_cons (pf_str (by decide +kernel)) (pfs_cons (pf_val (pv 1)) (pfs_cons (pf_str (by decide +kernel)) pfs_nil))) (by decide)) pa_nil)))
    pss_nil)), ?_⟩
  obtain ⟨⟨dx, kvs, hp, hd, en⟩, nd⟩ := id RA
  refine ⟨_, rfl, _, rfl, p, a.cRoster, dx, _, _, rfl, hp, T.c_Roster, T.n_entries, lk_entries, d, _, rfl, DGet.k (k := Sum.inl n) hd, _, rfl, ?_⟩
  rw [en.isSome nd]
  by_cases hn : n ∈ R.map (·.1)
  · rw [decide_eq_true hn]
    rw [if_pos hn] at h
    exact iteF h
  · rw [decide_eq_false hn]
    rw [if_neg hn] at h
    exact iteT ⟨_, rfl, .inl ⟨_, rfl, sn⟩, fun z => ⟨sz1, h⟩⟩
def spEntry (a : Ad) : Sp := fun vs H Q E => ∃ p d R n, vs = [.ref p, .int n] ∧ RosAt a.cRoster H p d R ∧ smallI n ∧ (n ∉ R.map (·.1) → E (.ref a.cUnknownReferee) none H) ∧ ∀ g c t, (n, g, c) ∈ R → H t = some (.tup [.int g, .int c]) → Q (.ref t) H
abbrev s_Roster_entry : Stmt := inClass (top 14) 7
theorem sc_Roster_entry : FnScope ["self", "number"] ["self", "number"] (defScope s_Roster_entry) := ⟨rfl, rfl, rfl, by decide +kernel, rfl, by decide +kernel, by decide +kernel⟩
theorem ok_Roster_entry (F : Fun K "entry" "Roster.entry" s_Roster_entry f fd) (T : Tx K mg a) (M_Roster_check_known : MethOk P w K mg base a.cRoster "check_known" 1 ["self", "number"] (spKnown a)) : FnOk P w K mg base (CX1 P w) 2 f fd ["self", "number"] (spEntry a) := by
  refine F.okX sc_Roster_entry (fun vs H Q E h => ?_) (fun cdv A outer s H vs Q E hr h => ?_)
  · obtain ⟨p, d, R, n, rfl, _⟩ := h
    rfl
  obtain ⟨p, d, R, n, rfl, RA, sn, h1, h2⟩ := h
  have hu := hu_of hr
  refine ⟨_, (pss_cons (ps_expr (pe_mt (pv 0) T.c_Roster M_Roster_check_known (hr.mono (by decide)) passes_fn (pa_cons (pv 1) pa_nil)))
  (pss_one (ps_ret (pe_dget hu (pe_fldK (K := K) rfl (pv 0) rfl) (pv 1) (fun _ _ => rfl))))), ?_⟩
  obtain ⟨⟨dx, kvs, hp, hd, en⟩, nd⟩ := id RA
  refine ⟨_, rfl, p, dx, _, rfl, hp, RosAt.no (by decide +kernel), _, rfl, p, d, R, n, rfl, RA, sn, ?_⟩
  refine ite2 (fun hn => ?_) (fun hn => h1 hn)
  obtain ⟨⟨m, g, c⟩, q, rfl⟩ := List.mem_map.mp hn
  obtain ⟨t, e1, e2⟩ := en.val_some nd q
  exact ⟨_, rfl, p, a.cRoster, dx, _, _, rfl, hp, T.c_Roster, T.n_entries, lk_entries, _, rfl, d, _, rfl, (by rw [← e1]; exact DGet.k (k := Sum.inl m) hd), h2 g c t q e2⟩
abbrev s_Roster_grade : Stmt := inClass (top 14) 8
theorem sc_Roster_grade : FnScope ["self", "number"] ["self", "number"] (defScope s_Roster_grade) := ⟨rfl, rfl, rfl, by decide +kernel, rfl, by decide +kernel, by decide +kernel⟩
def spGrade (a : Ad) : Sp := fun vs H Q E => ∃ p d R n, vs = [.ref p, .int n] ∧ RosAt a.cRoster H p d R ∧ smallI n ∧ (n ∉ R.map (·.1) → E (.ref a.cUnknownReferee) none H) ∧ ∀ g c, (n, g, c) ∈ R → Q (.int g) H
def spClub (a : Ad) : Sp := fun vs H Q E => ∃ p d R n, vs = [.ref p, .int n] ∧ RosAt a.cRoster H p d R ∧ smallI n ∧ (n ∉ R.map (·.1) → E (.ref a.cUnknownReferee) none H) ∧ ∀ g c, (n, g, c) ∈ R → Q (.int c) H
theorem ok_Roster_grade (F : Fun K "grade" "Roster.grade" s_Roster_grade f fd) (T : Tx K mg a) (M_Roster_entry : MethOk P w K mg base a.cRoster "entry" 2 ["self", "number"] (spEntry a)) : FnOk P w K mg base (CX1 P w) 3 f fd ["self", "number"] (spGrade a) := by
  refine F.okX sc_Roster_grade (fun vs H Q E h => ?_) (fun cdv A outer s H vs Q E hr h => ?_)
  · obtain ⟨p, d, R, n, rfl, _⟩ := h
    rfl
  obtain ⟨p, d, R, n, rfl, RA, sn, h1, h2⟩ := h
  have hu := hu_of hr
  refine ⟨_, (pss_one (ps_ret (pe_ix (ix_tupK (K := K) rfl) (pe_mt (pv 0) T.c_Roster M_Roster_entry (hr.mono (by decide)) passes_fn (pa_cons (pv 1) pa_nil)) pe_int (fun _ _ => rfl)))), ?_⟩
  obtain ⟨⟨dx, kvs, hp, hd, en⟩, nd⟩ := id RA
  exact ⟨_, rfl, p, dx, _, rfl, hp, RosAt.no (by decide +kernel), _, rfl, p, d, R, n, rfl, RA, sn, h1, fun g c t q ht => ⟨t, _, 0, _, rfl, rfl, SqT.of ht, rfl, h2 g c q⟩⟩
abbrev s_Roster_club : Stmt := inClass (top 14) 9
theorem sc_Roster_club : FnScope ["self", "number"] ["self", "number"] (defScope s_Roster_club) := ⟨rfl, rfl, rfl, by decide +kernel, rfl, by decide +kernel, by decide +kernel⟩
theorem ok_Roster_club (F : Fun K "club" "Roster.club" s_Roster_club f fd) (T : Tx K mg a) (M_Roster_entry : MethOk P w K mg base a.cRoster "entry" 2 ["self", "number"] (spEntry a)) : FnOk P w K mg base (CX1 P w) 3 f fd ["self", "number"] (spClub a) := by
  refine F.okX sc_Roster_club (fun vs H Q E h => ?_) (fun cdv A outer s H vs Q E hr h => ?_)
  · obtain ⟨p, d, R, n, rfl, _⟩ := h
    rfl
  obtain ⟨p, d, R, n, rfl, RA, sn, h1, h2⟩ := h
  have hu := hu_of hr
  refine ⟨_, (pss_one (ps_ret (pe_ix (ix_tupK (K := K) rfl) (pe_mt (pv 0) T.c_Roster M_Roster_entry (hr.mono (by decide)) passes_fn (pa_cons (pv 1) pa_nil)) pe_int (fun _ _ => rfl)))), ?_⟩
  obtain ⟨⟨dx, kvs, hp, hd, en⟩, nd⟩ := id RA
  exact ⟨_, rfl, p, dx, _, rfl, hp, RosAt.no (by decide +kernel), _, rfl, p, d, R, n, rfl, RA, sn, h1, fun g c t q ht => ⟨t, _, 1, _, rfl, rfl, SqT.of ht, rfl, h2 g c q⟩⟩
def badI (n g c : Int) : Prop := n < 1 ∨ 999 < n ∨ g < 1 ∨ 9 < g ∨ c < 1 ∨ 99 < c
instance {n g c : Int} : Decidable (badI n g c) := by unfold badI; infer_instance
def spAdd (a : Ad) : Sp := fun vs H Q E => ∃ p d R n g c, vs = [.ref p, .int n, .int g, .int c] ∧ RosAt a.cRoster H p d R ∧ smallI n ∧ smallI g ∧ smallI c ∧ R.length ≤ 1000 ∧
  if badI n g c then E (.ref a.cOutOfRange) none H else if n ∈ R.map (·.1) then E (.ref a.cKnownReferee) none H else if 30 ≤ R.length then E (.ref a.cTooManyReferees) none H
  else ∀ H', RosAt a.cRoster H' p d (R ++ [(n, g, c)]) → (∀ b o, H b = some o → b ≠ d → H' b = some o) → Q .non H'
def spNew (a : Ad) : Sp := fun vs H Q E => ∃ p d R n g c, vs = [.ref p, .int n, .int g, .int c] ∧ RosAt a.cRoster H p d R ∧ (smallI n ∧ smallI g ∧ smallI c) ∧
  if badI n g c then E (.ref a.cOutOfRange) none H else if n ∈ R.map (·.1) then E (.ref a.cKnownReferee) none H else if 30 ≤ R.length then E (.ref a.cTooManyReferees) none H else Q .non H
theorem smallI_le {i : Int} (h : i.natAbs ≤ 10 ^ 60) : smallI i := by
  unfold smallI
  by_cases h0 : i.natAbs = 0
  · rw [h0]; decide
  · exact (Nat.log2_lt h0).mpr (Nat.lt_of_le_of_lt h (by decide +kernel))
abbrev s_Roster_check_new : Stmt := inClass (top 14) 1
theorem sc_Roster_check_new : FnScope ["self", "number", "grade", "club"] ["self", "number", "grade", "club"] (defScope s_Roster_check_new) := ⟨rfl, rfl, rfl, by decide +kernel, rfl, by decide +kernel, by decide +kernel⟩
theorem ok_Roster_check_new (F : Fun K "check_new" "Roster.check_new" s_Roster_check_new f fd) (T : Tx K mg a) (D_check_range : DefOk P w K mg base "check_range" 1 ["value", "least", "most"] (spRange a)) : FnOk P w K mg base (CX1 P w) 2 f fd ["self", "number", "grade", "club"] (spNew a) := by
  refine F.okX sc_Roster_check_new (fun vs H Q E h => ?_) (fun cdv A outer s H vs Q E hr h => ?_)
  · obtain ⟨p, d, R, n, g, c, rfl, _⟩ := h
    rfl
  obtain ⟨p, d, R, n, g, c, rfl, RA, sm, h⟩ := h
  have hu := hu_of hr
  refine ⟨_, (pss_cons (ps_expr (pe_fn D_check_range (hr.mono (by decide)) passes_fn rfl (pa_cons (pv 1) (pa_cons pe_int (pa_cons (pe_gint rfl T.g_MOST_NUMBER) pa_nil)))))
  (pss_cons (ps_expr (pe_fn D_check_range (hr.mono (by decide)) passes_fn rfl (pa_cons (pv 2) (pa_cons pe_int (pa_cons (pe_gint rfl T.g_MOST_GRADE) pa_nil)))))
  (pss_cons (ps_expr (pe_fn D_check_range (hr.mono (by decide)) passes_fn rfl (pa_cons (pv 3) (pa_cons pe_int (pa_cons (pe_gint rfl T.g_MOST_CLUB) pa_nil)))))
  (pss_cons (ps_if (pt_cmp (pc_din hu (pv 1) (pe_fldK (K := K) rfl (pv 0) rfl)))
    (pss_one (ps_raise lands_fn rfl T.x_KnownReferee rfl (pa_cons (pe_fstr (pfs_cons (pf_str (by decide +kernel)) (pfs_cons (pf_val (pv 1)) (pfs_cons (pf_str (by decide +kernel)) pfs_nil))) (by decide)) pa_nil)))
    pss_nil)
  (pss_one (ps_if (pt_cmpR op_ge (pe_callB call_lenD (by rfl) T.z_len PySem.boot_len (pa_cons (pe_fldK (K := K) rfl (pv 0) rfl) pa_nil)) (pe_gint rfl T.g_MOST_REFEREES) (nomark _))
    (pss_one (ps_raise lands_fn rfl T.x_TooManyReferees rfl (pa_cons (pe_fstr (pfs_cons (pf_str (by decide +kernel)) (pfs_cons (pf_val (pe_gint rfl T.g_MOST_REFEREES)) (pfs_cons (pf_str (by decide +kernel)) pfs_nil))) (by decide)) pa_nil)))
    pss_nil)))))), ?_⟩
  obtain ⟨sn, sg, sc⟩ := sm
  obtain ⟨⟨dx, kvs, hp, hd, en⟩, nd⟩ := id RA
  have bad : ∀ {A B : Prop}, (badI n g c → (if badI n g c then A else B) → A) := fun hb z => by rw [if_pos hb] at z; exact z
  refine ⟨_, rfl, n, 1, 999, rfl, sn, smallI_le (by decide), smallI_le (by decide), ?_⟩
  refine ite2 (fun b1 => bad (by unfold badI; omega) h) (fun b1 => ?_)
  refine ⟨_, rfl, g, 1, 9, rfl, sg, smallI_le (by decide), smallI_le (by decide), ?_⟩
  refine ite2 (fun b2 => bad (by unfold badI; omega) h) (fun b2 => ?_)
  refine ⟨_, rfl, c, 1, 99, rfl, sc, smallI_le (by decide), smallI_le (by decide), ?_⟩
  refine ite2 (fun b3 => bad (by unfold badI; omega) h) (fun b3 => ?_)
  rw [if_neg (by unfold badI; omega)] at h
  refine ⟨_, rfl, _, rfl, p, a.cRoster, dx, _, _, rfl, hp, T.c_Roster, T.n_entries, lk_entries, d, _, rfl, DGet.k (k := Sum.inl n) hd, _, rfl, ?_⟩
  rw [en.isSome nd]
  refine itD (fun hn => ?_) (fun hn => ?_)
  · rw [if_pos hn] at h
    exact ⟨_, rfl, .inl ⟨_, rfl, sn⟩, fun z => ⟨sz1, h⟩⟩
  rw [if_neg hn] at h
  refine ⟨_, rfl, p, a.cRoster, dx, _, _, rfl, hp, T.c_Roster, T.n_entries, lk_entries, d, _, rfl, hd, _, _, rfl, rfl, _, rfl, ?_⟩
  rw [en.length]
  refine itD (fun hz => ?_) (fun hz => ?_)
  · rw [if_pos (by omega)] at h
    exact ⟨.inl ⟨_, rfl, smallI_le (by decide)⟩, fun z => ⟨sz1, h⟩⟩
  rw [if_neg (by omega)] at h
  exact h
abbrev s_Roster_add : Stmt := inClass (top 14) 3
theorem sc_Roster_add : FnScope ["self", "number", "grade", "club"] ["self", "number", "grade", "club"] (defScope s_Roster_add) := ⟨rfl, rfl, rfl, by decide +kernel, rfl, by decide +kernel, by decide +kernel⟩
theorem ok_Roster_add (F : Fun K "add" "Roster.add" s_Roster_add f fd) (T : Tx K mg a) (M_Roster_check_new : MethOk P w K mg base a.cRoster "check_new" 2 ["self", "number", "grade", "club"] (spNew a)) : FnOk P w K mg base (CX1 P w) 3 f fd ["self", "number", "grade", "club"] (spAdd a) := by
  refine F.okX sc_Roster_add (fun vs H Q E h => ?_) (fun cdv A outer s H vs Q E hr h => ?_)
  · obtain ⟨p, d, R, n, g, c, rfl, _⟩ := h
    rfl
  obtain ⟨p, d, R, n, g, c, rfl, RA, sn, sg, sc, hl, h⟩ := h
  have hu := hu_of hr
  refine ⟨_, (pss_cons (ps_expr (pe_mt (pv 0) T.c_Roster M_Roster_check_new (hr.mono (by decide)) passes_fn (pa_cons (pv 1) (pa_cons (pv 2) (pa_cons (pv 3) pa_nil)))))
  (pss_one (ps_dput hu (pe_fldK (K := K) rfl (pv 0) rfl) (pv 1) (pe_tup (pa_cons (pv 2) (pa_cons (pv 3) pa_nil))) rfl))), ?_⟩
  obtain ⟨⟨dx, kvs, hp, hd, en⟩, nd⟩ := id RA
  refine ⟨_, rfl, p, dx, _, rfl, hp, RosAt.no (by decide +kernel), _, rfl, _, rfl, _, rfl, p, d, R, n, g, c, rfl, RA, ⟨sn, sg, sc⟩, ?_⟩
  refine ite2 (fun hb => by rw [if_pos hb] at h; exact h) (fun hb => ?_)
  rw [if_neg hb] at h
  refine ite2 (fun hn => by rw [if_pos hn] at h; exact h) (fun hn => ?_)
  rw [if_neg hn] at h
  refine ite2 (fun hz => by rw [if_pos hz] at h; exact h) (fun hz => ?_)
  rw [if_neg hz] at h
  refine ⟨_, rfl, _, rfl, sz2, fun t ht => ?_⟩
  have ntp : p ≠ t := ne_of_none hp ht
  have ntd : d ≠ t := ne_of_none hd ht
  have npd : p ≠ d := ne_of hp hd (by intro z; cases z)
  refine ⟨_, rfl, p, a.cRoster, dx, _, _, rfl, (by rw [upd_ne ntp]; exact hp), T.c_Roster, T.n_entries, lk_entries, _, rfl, d, _, rfl, DPut.k (k := Sum.inl n) (by rw [upd_ne ntd]; exact hd) (small1000 (by rw [en.length]; exact hl)), ?_⟩
  rw [putK_new _ (en.val_none hn)]
  refine h _ ⟨⟨dx, _, (by rw [upd_ne npd, upd_ne ntp]; exact hp), upd_same, ?_⟩, ?_⟩ fun b o e hb => (by rw [upd_ne hb, upd_ne (ne_of_none e ht)]; exact e)
  · refine Ents.snoc (by rw [upd_ne (Ne.symm ntd)]; exact upd_same) (en.mono fun b xs e => ?_)
    rw [upd_ne (ne_of e hd (by intro z; cases z)), upd_ne (ne_of_none e ht)]; exact e
  · rw [List.map_append]
    exact nd_snoc nd hn
end
end K06

set_option Elab.async false
set_option linter.all false
set_option maxRecDepth 100000
set_option maxHeartbeats 4000000
namespace K06
open PySem PySem.Spec PyProof.Rows L2 G
local macro_rules | `(tactic| walk_at "rd") => `(tactic| repeat (first | (refine ⟨_, rfl, ?_⟩) | (refine ⟨_, _, rfl, rfl, ?_⟩) | (refine And.intro (show CMul _ _ from Or.inr (And.intro (by decide) (by decide))) ?_) | (refine And.intro (show CMul _ _ from Or.inl (And.intro (by decide) (by decide))) ?_) | (refine And.intro (show CDiv _ _ from (And.intro (by decide) (by decide))) ?_) | (refine And.intro (show CPow _ _ from (And.intro (by decide) (And.intro (by decide) (by decide)))) ?_) | (refine And.intro (show (0 : Int) < _ from (by decide)) ?_)))
local macro_rules | `(tactic| walk_at "if") => `(tactic| dsimp only [gName, List.set])
local macro_rules | `(tactic| walk_at "ar") => `(tactic| (intro _ _ _ _ h; first | (cases h; subst_vars; rfl) | repeat (first | (obtain ⟨h1, _⟩ := h; subst h1; rfl) | (obtain ⟨_, h⟩ := h))))
section
variable {P : Program} {w : World} {K : PySem.W.Frag} {mg : Str → Option Value} {base : Heap} {a : Ad} {f : Addr} {fd : FuncData}
/-! ### _law_whole -/
abbrev s_law_whole : Stmt := top 16
theorem sc_law_whole : FnScope ["_law_found"] ["_law_found"] (defScope s_law_whole) := ⟨rfl, rfl, rfl, by decide +kernel, rfl, by decide +kernel, by decide +kernel⟩
def spWhole : Sp := fun vs H Q _ => ∃ i, vs = [.int i] ∧ Q (.bl true) H
theorem kit_ii (K : PySem.W.Frag) : PySem.W.kitOne K (.type "int") (.type "int") = some true := rfl
theorem kit_ib (K : PySem.W.Frag) : PySem.W.kitOne K (.type "int") (.type "bool") = some false := by with_unfolding_all rfl
theorem kit_ll (K : PySem.W.Frag) : PySem.W.kitOne K (.type "list") (.type "list") = some true := rfl
theorem ok_law_whole (F : Fun K "_law_whole" "_law_whole" s_law_whole f fd) (T : Tx K mg a) : FnOk P w K mg base (CX1 P w) 1 f fd ["_law_found"] spWhole := by
  refine F.okX sc_law_whole (fun vs H Q E h => ?_) (fun cdv A outer s H vs Q E hr h => ?_)
  · obtain ⟨i, rfl, _⟩ := h
    rfl
  obtain ⟨i, rfl, h⟩ := h
  have hu := hu_of hr
  refine ⟨_, (pss_one (ps_ret (pe_and (pe_callB (call_isiK (K := K) rfl) (by rfl) T.z_isinstance PyProof.Rows.boot_isinstance (pa_cons (pv 0) (pa_cons (pe_bltn rfl T.z_int PyProof.Rows.boot_int (show RelV (.ty "int") _ from rfl)) pa_nil))) (pe_one (pe_not (pe_callB (call_isiK (K := K) rfl) (by rfl) T.z_isinstance PyProof.Rows.boot_isinstance (pa_cons (pv 0) (pa_cons (pe_bltn rfl T.z_bool PyProof.Rows.boot_bool (show RelV (.ty "bool") _ from rfl)) pa_nil)))))))), ?_⟩
  refine ⟨_, rfl, _, _, _, _, rfl, .of (.int i), .inl ⟨_, rfl⟩, kit_ii K, _, rfl, ?_⟩
  refine iteT ?_
  exact ⟨_, rfl, _, _, _, _, rfl, .of (.int i), .inl ⟨_, rfl⟩, kit_ib K, _, rfl, h⟩
/-! ### _law_at -/
abbrev s_law_at : Stmt := top 17
theorem sc_law_at : FnScope ["_law_script", "_law_k"] ["_law_script", "_law_k"] (defScope s_law_at) := ⟨rfl, rfl, rfl, by decide +kernel, rfl, by decide +kernel, by decide +kernel⟩
def atS (ns : List Int) (k : Nat) : Int := (ns[k]?).getD 0
def spAt (K : PySem.W.Frag) : Sp := fun vs H Q _ => ∃ (b : Addr) (ns : List Int) (k : Nat), vs = [.ref b, .int k] ∧ SqL K H b (ns.map V.int) ∧ Q (.int (atS ns k)) H
theorem ok_law_at (F : Fun K "_law_at" "_law_at" s_law_at f fd) (T : Tx K mg a) : FnOk P w K mg base (CX1 P w) 1 f fd ["_law_script", "_law_k"] (spAt K) := by
  refine F.okX sc_law_at (fun vs H Q E h => ?_) (fun cdv A outer s H vs Q E hr h => ?_)
  · obtain ⟨b, ns, k, rfl, _⟩ := h
    rfl
  obtain ⟨b, ns, k, rfl, hs, h⟩ := h
  have hu := hu_of hr
  refine ⟨_, (pss_cons (ps_if (pt_cmpR op_lt (pv 1) (pe_callB (call_len_seqK (K := K) rfl) (by rfl) T.z_len PySem.boot_len (pa_cons (pv 0) pa_nil)) (nomark _))
    (pss_one (ps_ret (pe_ix (ix_listK (K := K) rfl) (pv 0) (pv 1) (fun _ _ => rfl))))
    pss_nil)
  (pss_one (ps_ret pe_int))), ?_⟩
  refine ⟨_, rfl, _, rfl, b, _, rfl, .inl hs, _, _, rfl, rfl, _, rfl, ?_⟩
  rw [List.length_map]
  refine itD (fun hk => ?_) (fun hk => ?_)
  · have hk' : k < ns.length := by omega
    refine ⟨_, rfl, _, rfl, b, _, _, _, rfl, rfl, hs, atI_nat (show (ns.map V.int)[k]? = some (.int (atS ns k)) from ?_), h⟩
    unfold atS
    rw [List.getElem?_map, List.getElem?_eq_getElem hk']; rfl
  · have e : atS ns k = 0 := by unfold atS; rw [List.getElem?_eq_none (by omega)]; rfl
    rw [e] at h
    exact h
/-! ### _law_mix -/
abbrev s_law_mix : Stmt := top 18
theorem sc_law_mix : FnScope ["_law_cell", "_law_k", "_law_one", "_law_two", "_law_three"] ["_law_cell", "_law_k"] (defScope s_law_mix) := ⟨rfl, rfl, rfl, by decide +kernel, rfl, by decide +kernel, by decide +kernel⟩
def mix1 (c k : Int) : Int := (c * 48271 + k) % 2147483647
def mix2 (c k : Int) : Int := (mix1 c k * 69621 + 7 * k) % 2147483629
def mix3 (c k : Int) : Int := (mix2 c k * 39373 + mix1 c k) % 2147483587
def mixS (c k : Int) : Int := (mix1 c k * 2147483647 + mix2 c k) * 2147483647 + mix3 c k
def spMix : Sp := fun vs H Q _ => ∃ c k, vs = [.int c, .int k] ∧ Q (.int (mixS c k)) H
theorem ok_law_mix (F : Fun K "_law_mix" "_law_mix" s_law_mix f fd) (T : Tx K mg a) : FnOk P w K mg base (CX1 P w) 1 f fd ["_law_cell", "_law_k"] spMix := by
  refine F.okX sc_law_mix (fun vs H Q E h => ?_) (fun cdv A outer s H vs Q E hr h => ?_)
  · obtain ⟨c, k, rfl, _⟩ := h
    rfl
  obtain ⟨c, k, rfl, h⟩ := h
  have hu := hu_of hr
  refine ⟨_, (pss_cons (ps_set (i := 2) sc_law_mix.nd rfl (by first | exact Or.inl rfl | exact Or.inr rfl) (pe_op op_mod (pe_op op_add (pe_op op_mul (pv 0) pe_int) (pv 1)) pe_int))
  (pss_cons (ps_set (i := 3) sc_law_mix.nd rfl (by first | exact Or.inl rfl | exact Or.inr rfl) (pe_op op_mod (pe_op op_add (pe_op op_mul (pv 2) pe_int) (pe_op op_mul pe_int (pv 1))) pe_int))
  (pss_cons (ps_set (i := 4) sc_law_mix.nd rfl (by first | exact Or.inl rfl | exact Or.inr rfl) (pe_op op_mod (pe_op op_add (pe_op op_mul (pv 3) pe_int) (pv 2)) pe_int))
  (pss_one (ps_ret (pe_op op_add (pe_op op_mul (pe_op op_add (pe_op op_mul (pv 2) pe_int) (pv 3)) pe_int) (pv 4))))))), ?_⟩
  walk_at "rd"
  exact h
/-! ### _law_numbers -/
abbrev s_law_numbers : Stmt := top 19
theorem sc_law_numbers : FnScope ["_law_cell", "_law_many", "_law_step"] ["_law_cell", "_law_many"] (defScope s_law_numbers) := ⟨rfl, rfl, rfl, by decide +kernel, rfl, by decide +kernel, by decide +kernel⟩
theorem atI_ints {xs : List Int} {i : Int} (h0 : 0 ≤ i) (h1 : i < xs.length) : atI (xs.map V.int) i = some (.int (xs.getD i.toNat 0)) := by
  obtain ⟨k, rfl⟩ : ∃ k : Nat, i = k := ⟨i.toNat, by omega⟩
  refine atI_nat ?_
  have hk : k < xs.length := by omega
  rw [List.getElem?_map, List.getElem?_eq_getElem hk, Option.map_some, Int.toNat_natCast, List.getD_eq_getElem?_getD, List.getElem?_eq_getElem hk]
  rfl
def stp (c : Int) : Int := ([1, 2, 5, 10, 100, 500, 998] : List Int).getD (c % 7).toNat 0
def numS (c : Int) (j : Nat) : Int := 1 + (c / 7 + stp c * (j : Int)) % 999
def poolS (c : Int) (many : Nat) : List Int := (List.range many).map (numS c)
def spNumbers2 : Sp := fun vs H Q _ => ∃ (c : Int) (many : Nat), vs = [.int c, .int many] ∧ many ≤ 1000 ∧ ∀ l H', H' l = some (.lst ((poolS c many).map V.int)) → Same H H' → H l = none → Q (.ref l) H'
theorem same_upd {H : Hp} {p : Addr} {o : HO} (h : H p = none) : Same H (upd H p o) := fun b u e => by rw [upd_ne (ne_of_none e h)]; exact e
set_option maxHeartbeats 4000000 in
theorem ok_law_numbers (F : Fun K "_law_numbers" "_law_numbers" s_law_numbers f fd) (T : Tx K mg a) : FnOk P w K mg base (CX1 P w) 1 f fd ["_law_cell", "_law_many"] spNumbers2 := by
  refine F.okX sc_law_numbers (fun vs H Q E h => ?_) (fun cdv A outer s H vs Q E hr h => ?_)
  · obtain ⟨c, m, rfl, _⟩ := h
    rfl
  obtain ⟨c, m, rfl, hm, h⟩ := h
  have hu := hu_of hr
  refine ⟨_, (pss_cons (ps_set (i := 2) sc_law_numbers.nd rfl (by first | exact Or.inl rfl | exact Or.inr rfl) (pe_ix (ix_listK (K := K) rfl) (pe_lst (pa_cons pe_int (pa_cons pe_int (pa_cons pe_int (pa_cons pe_int (pa_cons pe_int (pa_cons pe_int (pa_cons pe_int pa_nil)))))))) (pe_op op_mod (pv 0) pe_int) (fun _ _ => rfl)))
  (pss_one (ps_ret (pe_comp rfl (CompT.mk (ys := ["_law_cell", "_law_step"]) (js := [0, 2]) rfl rfl (by decide +kernel) (by decide +kernel) rfl (by decide +kernel) rfl (by repeat' (first | exact True.intro | apply And.intro | rfl)) (by repeat' (first | exact True.intro | apply And.intro | rfl)) (by decide +kernel)) (pi_range1 rfl T.z_range (pa_cons (pv 1) pa_nil)) (fun _ _ _ _ _ => pts_nil) (fun _ _ _ _ _ => (pe_op op_add pe_int (pe_op op_mod (pe_op op_add (pe_op op_fdiv (pv 1) pe_int) (pe_op op_mul (pv 2) (pv 0))) pe_int))))))), ?_⟩
  refine ⟨by show 7 ≤ sizeLine; decide, fun p0 hp0 => ?_⟩
  walk_at "rd"
  refine ⟨p0, _, _, _, rfl, rfl, SqL.of upd_same, atI_ints (xs := [1, 2, 5, 10, 100, 500, 998]) (by omega) (by show c % 7 < 7; omega), ?_⟩
  refine ⟨_, rfl, _, rfl, by omega, by omega, comp_mapR (fun j => V.int (numS c j)) (by rw [Int.toNat_natCast]; exact Nat.le_trans hm (by decide)) (fun i R hi k => ?_) (fun p hp => ?_)⟩
  · rw [Int.toNat_natCast] at hi
    walk_at "rd"
    refine ⟨.inr ⟨by omega, by omega⟩, ?_⟩
    walk_at "rd"
    rw [Int.zero_add]
    exact k
  · rw [Int.toNat_natCast]
    refine h p _ ?_ ((same_upd hp0).trans (same_upd hp)) ((same_upd hp0).free hp)
    rw [upd_same]
    unfold poolS
    rw [List.map_map]
    rfl
/-! ### _law_one_is, _law_list_is -/
abbrev s_law_one_is : Stmt := top 20
theorem sc_law_one_is : FnScope ["_law_found", "_law_due_here"] ["_law_found", "_law_due_here"] (defScope s_law_one_is) := ⟨rfl, rfl, rfl, by decide +kernel, rfl, by decide +kernel, by decide +kernel⟩
def spOneIs : Sp := fun vs H Q _ => ∃ i j, vs = [.int i, .int j] ∧ Q (.bl (decide (i = j))) H
theorem dec_int' {i j : Int} : decide (V.int i = V.int j) = decide (i = j) := by
  by_cases h : i = j
  · subst h; simp
  · rw [decide_eq_false h, decide_eq_false (fun z => h (V.int.inj z))]
theorem ok_law_one_is (F : Fun K "_law_one_is" "_law_one_is" s_law_one_is f fd) (T : Tx K mg a) (D_law_whole : DefOk P w K mg base "_law_whole" 1 ["_law_found"] spWhole) : FnOk P w K mg base (CX1 P w) 2 f fd ["_law_found", "_law_due_here"] spOneIs := by
  refine F.okX sc_law_one_is (fun vs H Q E h => ?_) (fun cdv A outer s H vs Q E hr h => ?_)
  · obtain ⟨i, j, rfl, _⟩ := h
    rfl
  obtain ⟨i, j, rfl, h⟩ := h
  have hu := hu_of hr
  refine ⟨_, (pss_one (ps_ret (pe_ifExp (pt_cmpR op_isN (pv 1) pe_non (nomark _)) (pe_cmpR op_isN (pv 0) pe_non (nomark _)) (pe_and (pe_fn D_law_whole (hr.mono (by decide)) passes_fn rfl (pa_cons (pv 0) pa_nil)) (pe_one (pe_cmpR op_eq (pv 0) (pv 1) (nomark _))))))), ?_⟩
  refine ⟨_, rfl, rfl, _, rfl, ?_⟩
  refine iteF ?_
  refine ⟨_, rfl, i, rfl, _, rfl, ?_⟩
  refine iteT ?_
  refine ⟨_, rfl, _, rfl, rfl, ?_⟩
  rw [dec_int']
  exact h
abbrev s_law_list_is : Stmt := top 21
theorem sc_law_list_is : FnScope ["_law_found", "_law_due_here", "_law_k"] ["_law_found", "_law_due_here"] (defScope s_law_list_is) := ⟨rfl, rfl, rfl, by decide +kernel, rfl, by decide +kernel, by decide +kernel⟩
def spListIs (K : PySem.W.Frag) : Sp := fun vs H Q _ => ∃ (b c : Addr) (xs ys : List Int), vs = [.ref b, .ref c] ∧ H b = some (.lst (xs.map V.int)) ∧ SqL K H c (ys.map V.int) ∧ ys.length ≤ 1000 ∧ Q (.bl (decide (xs = ys))) H
theorem ok_law_list_is (F : Fun K "_law_list_is" "_law_list_is" s_law_list_is f fd) (T : Tx K mg a) (D_law_one_is : DefOk P w K mg base "_law_one_is" 2 ["_law_found", "_law_due_here"] spOneIs) : FnOk P w K mg base (CX1 P w) 3 f fd ["_law_found", "_law_due_here"] (spListIs K) := by
  refine F.okX sc_law_list_is (fun vs H Q E h => ?_) (fun cdv A outer s H vs Q E hr h => ?_)
  · obtain ⟨b, c, xs, ys, rfl, _⟩ := h
    rfl
  obtain ⟨b, c, xs, ys, rfl, hb, hc, hl, h⟩ := h
  have hu := hu_of hr
  refine ⟨_, (pss_cons (ps_if (PW.pt (pw_or (pt_not (pt_val (pe_callB (call_isiK (K := K) rfl) (by rfl) T.z_isinstance PyProof.Rows.boot_isinstance (pa_cons (pv 0) (pa_cons (pe_bltn rfl T.z_list PyProof.Rows.boot_list (show RelV (.ty "list") _ from rfl)) pa_nil))))) (pw_or1 (pt_cmpR op_ne (pe_callB (call_len_seqK (K := K) rfl) (by rfl) T.z_len PySem.boot_len (pa_cons (pv 0) pa_nil)) (pe_callB (call_len_seqK (K := K) rfl) (by rfl) T.z_len PySem.boot_len (pa_cons (pv 1) pa_nil)) (nomark _)))))
    (pss_one (ps_ret pe_bl))
    pss_nil)
  (pss_cons (ps_for PassesOwn.leaving rfl (pi_range1 rfl T.z_range (pa_cons (pe_callB (call_len_seqK (K := K) rfl) (by rfl) T.z_len PySem.boot_len (pa_cons (pv 1) pa_nil)) pa_nil)) (pg_name (i := 2) sc_law_list_is.nd rfl (by first | exact Or.inl rfl | exact Or.inr rfl))
    (pss_one (ps_if (pt_not (pt_val (pe_fn D_law_one_is (hr.mono (by decide)) passes_fn rfl (pa_cons (pe_ix (ix_listK (K := K) rfl) (pv 0) (pv 2) (fun _ _ => rfl)) (pa_cons (pe_ix (ix_listK (K := K) rfl) (pv 1) (pv 2) (fun _ _ => rfl)) pa_nil)))))
      (pss_one (ps_ret pe_bl))
      pss_nil)))
  (pss_one (ps_ret pe_bl)))), ?_⟩
  refine ⟨_, rfl, _, _, _, _, rfl, .of (.lst hb), .inl ⟨_, rfl⟩, kit_ll K, _, rfl, ?_⟩
  refine iteF ?_
  refine ⟨_, rfl, b, _, rfl, .inl (SqL.of hb), _, rfl, c, _, rfl, .inl hc, rfl, _, rfl, ?_⟩
  rw [List.length_map, List.length_map]
  refine itN (fun hne => ?_) (fun heq => ?_)
  · have : xs ≠ ys := fun z => hne (by rw [z])
    rw [decide_eq_false this] at h
    exact h
  have len : xs.length = ys.length := by have := V.int.inj heq; omega
  refine ⟨_, rfl, c, _, rfl, .inl hc, _, rfl, by omega, by rw [List.length_map]; omega, for_range (fun i σ H' => H' = H ∧ (∃ v, σ = [some (.ref b), some (.ref c), v]) ∧ xs.take i = ys.take i) ⟨rfl, ⟨_, rfl⟩, rfl⟩ (fun i σ H' hi ⟨e, ⟨v, hv⟩, ht⟩ => ?_) (fun σ H' ⟨e, ⟨v, hv⟩, ht⟩ => ?_)⟩
  · subst e hv
    rw [List.length_map, Int.toNat_natCast] at hi
    have h1 : (xs.map V.int)[i]? = some (.int (xs[i]'(by omega))) := by rw [List.getElem?_map, List.getElem?_eq_getElem (by omega)]; rfl
    have h2 : (ys.map V.int)[i]? = some (.int (ys[i]'hi)) := by rw [List.getElem?_map, List.getElem?_eq_getElem hi]; rfl
    rw [Int.zero_add]
    refine ⟨_, rfl, _, rfl, b, _, _, _, rfl, rfl, SqL.of hb, atI_nat h1, _, rfl, _, rfl, c, _, _, _, rfl, rfl, hc, atI_nat h2, _, _, rfl, _, rfl, ?_⟩
    refine itN (fun hne => ?_) (fun heq => ?_)
    · have : xs ≠ ys := fun z => hne (by subst z; rfl)
      rw [decide_eq_false this] at h
      exact h
    · refine ⟨rfl, ⟨_, rfl⟩, ?_⟩
      rw [List.take_add_one, List.take_add_one, ht, List.getElem?_eq_getElem (by omega), List.getElem?_eq_getElem hi, heq]
  · subst e hv
    rw [List.length_map, Int.toNat_natCast, List.take_length, ← len, List.take_length] at ht
    rw [decide_eq_true ht] at h
    exact h
end
end K06

set_option Elab.async false
set_option linter.all false
set_option maxRecDepth 100000
set_option maxHeartbeats 4000000
namespace K06
open PySem PySem.Spec PyProof.Rows L2 G
local macro_rules | `(tactic| walk_at "rd") => `(tactic| repeat (first | (refine ⟨_, rfl, ?_⟩) | (refine ⟨_, _, rfl, rfl, ?_⟩) | (refine And.intro (show CMul _ _ from Or.inr (And.intro (by decide) (by decide))) ?_) | (refine And.intro (show CMul _ _ from Or.inl (And.intro (by decide) (by decide))) ?_) | (refine And.intro (show CDiv _ _ from (And.intro (by decide) (by decide))) ?_) | (refine And.intro (show CPow _ _ from (And.intro (by decide) (And.intro (by decide) (by decide)))) ?_) | (refine And.intro (show (0 : Int) < _ from (by decide)) ?_)))
local macro_rules | `(tactic| walk_at "if") => `(tactic| dsimp only [gName, List.set])
local macro_rules | `(tactic| walk_at "ar") => `(tactic| (intro _ _ _ _ h; first | (cases h; subst_vars; rfl) | repeat (first | (obtain ⟨h1, _⟩ := h; subst h1; rfl) | (obtain ⟨_, h⟩ := h))))
section
variable {P : Program} {w : World} {K : PySem.W.Frag} {mg : Str → Option Value} {base : Heap} {a : Ad} {f : Addr} {fd : FuncData}
/-! ### _law_added -/
def refD (x y z : Bool) : Dt := .tup [.str "refused", .lst [.bl x, .bl y, .bl z, .bl true]]
def toldD : Dt := .tup [.str "told", .non]
def dueD (R : RL) (n g c : Int) : Dt := if badI n g c then refD true false false else if n ∈ R.map (·.1) then refD false true false else if 30 ≤ R.length then refD false false true else toldD
def addR (R : RL) (n g c : Int) : RL := if badI n g c then R else if n ∈ R.map (·.1) then R else if 30 ≤ R.length then R else R ++ [(n, g, c)]
abbrev s_law_added : Stmt := top 22
theorem sc_law_added : FnScope ["_law_roster", "_law_person_here", "_law_names", "e"] ["_law_roster", "_law_person_here"] (defScope s_law_added) := ⟨rfl, rfl, rfl, by decide +kernel, rfl, by decide +kernel, by decide +kernel⟩
def spAdded (K : PySem.W.Frag) (a : Ad) : Sp := fun vs H Q _ => ∃ p d R t n g c, vs = [.ref p, .ref t] ∧ RosAt a.cRoster H p d R ∧ H t = some (.tup [.int n, .int g, .int c]) ∧ smallI n ∧ smallI g ∧ smallI c ∧ R.length ≤ 1000 ∧
  ∀ v H', Is K H' v (dueD R n g c) → RosAt a.cRoster H' p d (addR R n g c) → (∀ b o, H b = some o → b ≠ d → H' b = some o) → Q v H'
theorem RosAt.same {C : Addr} {H H' : Hp} {p d : Addr} {R : RL} (h : RosAt C H p d R) (e : Same H H') : RosAt C H' p d R := by
  obtain ⟨⟨dx, kvs, h1, h2, h3⟩, nd⟩ := h
  exact ⟨⟨dx, kvs, e _ _ h1, e _ _ h2, h3.mono fun t xs q => e _ _ q⟩, nd⟩
theorem added_suite {D : Ends} {r u : Option V} {q : Option V} {e C : Addr} {H : Hp} {x y z : Bool} (T : Tx K mg a) (hx : H e = some (excO e (.ref C))) (ei : ExcI K C) (h3 : PySem.W.kitOne K (.ref C) (.ref a.cOutOfRange) = some x) (h4 : PySem.W.kitOne K (.ref C) (.ref a.cKnownReferee) = some y)
    (h5 : PySem.W.kitOne K (.ref C) (.ref a.cTooManyReferees) = some z) (h6 : PySem.W.kitOne K (.ref C) (.type "ValueError") = some true)
    (k : ∀ l H', H' l = some (.lst [.bl x, .bl y, .bl z, .bl true]) → Same H H' → D.nx [r, u, some (.ref l), some (.ref e)] H') :
    (tSeq (tAsg (tLst (tCons (tCB (rIsI K) (tCons (tVar 3) (tCons (tC (V.ref a.cOutOfRange)) tNil))) (tCons (tCB (rIsI K) (tCons (tVar 3) (tCons (tC (V.ref a.cKnownReferee)) tNil))) (tCons (tCB (rIsI K) (tCons (tVar 3) (tCons (tC (V.ref a.cTooManyReferees)) tNil))) tNil)))) (gName 2))
      (tApp (tVar 2) (tCB (rIsI K) (tCons (tVar 3) (tCons (tC (V.ty "ValueError")) tNil))))) D [r, u, q, some (.ref e)] H := by
  refine ⟨_, rfl, _, _, _, _, rfl, .exc rfl rfl hx ei, .inr ⟨_, rfl⟩, h3, _, rfl, _, _, _, _, rfl, .exc rfl rfl hx ei, .inr ⟨_, rfl⟩, h4, _, rfl, _, _, _, _, rfl, .exc rfl rfl hx ei, .inr ⟨_, rfl⟩, h5, sz3, fun l hl => ?_⟩
  have hx' : upd H l (.lst [.bl x, .bl y, .bl z]) e = some (excO e (.ref C)) := by rw [upd_ne (ne_of_none hx hl)]; exact hx
  refine ⟨_, rfl, l, _, rfl, upd_same, _, rfl, _, _, _, _, rfl, .exc rfl rfl hx' ei, .inl ⟨_, rfl⟩, h6, _, upd_same, (by show 3 < sizeLine; decide), ?_⟩
  refine k l _ upd_same fun b o eb => ?_
  rw [upd_upd, upd_ne (ne_of_none eb hl)]
  exact eb
theorem ok_law_added (F : Fun K "_law_added" "_law_added" s_law_added f fd) (T : Tx K mg a) (M_Roster_add : MethOk P w K mg base a.cRoster "add" 3 ["self", "number", "grade", "club"] (spAdd a)) : FnOk P w K mg base (CX1 P w) 4 f fd ["_law_roster", "_law_person_here"] (spAdded K a) := by
  refine F.okX sc_law_added (fun vs H Q E h => ?_) (fun cdv A outer s H vs Q E hr h => ?_)
  · obtain ⟨p, d, R, t, n, g, c, rfl, _⟩ := h
    rfl
  obtain ⟨p, d, R, t, n, g, c, rfl, RA, ht, sn, sg, sc, hl, h⟩ := h
  have hu := hu_of hr
  refine ⟨_, (pss_cons (ps_set (i := 2) sc_law_added.nd rfl (by first | exact Or.inl rfl | exact Or.inr rfl) (pe_lst pa_nil))
  (pss_cons (ps_tryAs (as := []) (i := 3) body_cxOf sc_law_added.nd rfl rfl T.ca_BookError rfl T.gc_BookError
    (fun E1 lk1 pn1 EX1 hl1 hO hP =>
    (pss_one (ps_ret (pe_tup (pa_cons pe_str (pa_cons (pe_mt (pv 0) T.c_Roster M_Roster_add (hr.mono (by decide)) hP (pa_cons (pe_ix (ix_tupK (K := K) rfl) (pv 1) pe_int (fun _ _ => rfl)) (pa_cons (pe_ix (ix_tupK (K := K) rfl) (pv 1) pe_int (fun _ _ => rfl)) (pa_cons (pe_ix (ix_tupK (K := K) rfl) (pv 1) pe_int (fun _ _ => rfl)) pa_nil)))) pa_nil))))))
    (fun a1 =>
    (pss_cons (ps_set (i := 2) sc_law_added.nd rfl (by first | exact Or.inl rfl | exact Or.inr rfl) (pe_lst (pa_cons (pe_callB (call_isiK (K := K) rfl) (by rfl) T.z_isinstance PyProof.Rows.boot_isinstance (pa_cons (pv 3) (pa_cons (pe_gcls rfl T.gc_OutOfRange) pa_nil))) (pa_cons (pe_callB (call_isiK (K := K) rfl) (by rfl) T.z_isinstance PyProof.Rows.boot_isinstance (pa_cons (pv 3) (pa_cons (pe_gcls rfl T.gc_KnownReferee) pa_nil))) (pa_cons (pe_callB (call_isiK (K := K) rfl) (by rfl) T.z_isinstance PyProof.Rows.boot_isinstance (pa_cons (pv 3) (pa_cons (pe_gcls rfl T.gc_TooManyReferees) pa_nil))) pa_nil)))))
    (pss_one (ps_append (pv 2) (pe_callB (call_isiK (K := K) rfl) (by rfl) T.z_isinstance PyProof.Rows.boot_isinstance (pa_cons (pv 3) (pa_cons (pe_bltn rfl T.z_ValueError PyProof.Rows.Boot.«ValueError» (show RelV (.ty "ValueError") _ from rfl)) pa_nil))))))))
  (pss_one (ps_ret (pe_tup (pa_cons pe_str (pa_cons (pv 2) pa_nil))))))), ?_⟩
  refine ⟨by show 0 ≤ sizeLine; decide, fun l0 hl0 => ?_⟩
  have s0 : Same H (upd H l0 (.lst [])) := same_upd hl0
  have RA0 := RA.same s0
  obtain ⟨⟨dx, kvs, hp, hd, en⟩, nd⟩ := id RA0
  have ht0 := s0 _ _ ht
  have fin : ∀ {x y z : Bool} {e : Addr} {l : Addr} {H2 : Hp}, dueD R n g c = refD x y z → addR R n g c = R → H2 l = some (.lst [.bl x, .bl y, .bl z, .bl true]) → Same (upd H l0 (.lst [])) H2 → ∀ tt, H2 tt = none → Q (.ref tt) (upd H2 tt (.tup [.str "refused", .ref l])) := fun {x y z e l H2} h7 h8 hl2 s2 tt htt => by
    have s3 : Same H (upd H2 tt (.tup [.str "refused", .ref l])) := s0.trans (s2.trans (same_upd htt))
    refine h _ _ ?_ ?_ fun b o eb _ => s3 b o eb
    · rw [h7]
      refine .tup (SqT.of upd_same) (.cons (.str _) (.cons (.lst (SqL.of (by rw [upd_ne (ne_of_none hl2 htt)]; exact hl2)) ?_) .nil))
      exact .cons (.bl _) (.cons (.bl _) (.cons (.bl _) (.cons (.bl _) .nil)))
    · rw [h8]; exact RA.same s3
  refine ⟨_, rfl, p, dx, _, rfl, hp, RosAt.no (by decide +kernel), ?_⟩
  refine ⟨_, rfl, t, _, _, _, rfl, rfl, SqT.of ht0, (show atI [V.int n, V.int g, V.int c] 0 = some _ from rfl), _, rfl, t, _, _, _, rfl, rfl, SqT.of ht0, (show atI [V.int n, V.int g, V.int c] 1 = some _ from rfl), _, rfl, t, _, _, _, rfl, rfl, SqT.of ht0, (show atI [V.int n, V.int g, V.int c] 2 = some _ from rfl), ?_⟩
  refine ⟨p, d, R, n, g, c, rfl, RA0, sn, sg, sc, hl, ?_⟩
  refine ite2 (fun hb => ?_) (fun hb => ite2 (fun hk => ?_) (fun hk => ite2 (fun hm => ?_) (fun hm => ?_)))
  · refine ⟨a.cOutOfRange, rfl, T.m_OutOfRange_BookError, fun e he => added_suite T upd_same T.ei_OutOfRange T.k_OutOfRange_OutOfRange T.k_OutOfRange_KnownReferee T.k_OutOfRange_TooManyReferees T.k_OutOfRange_ValueError fun l H2 hl2 s2 => ?_⟩
    refine ⟨_, rfl, sz2, fun tt htt => fin (e := e) (by unfold dueD; rw [if_pos hb]) (by unfold addR; rw [if_pos hb]) hl2 ((same_upd he).trans s2) tt htt⟩
  · refine ⟨a.cKnownReferee, rfl, T.m_KnownReferee_BookError, fun e he => added_suite T upd_same T.ei_KnownReferee T.k_KnownReferee_OutOfRange T.k_KnownReferee_KnownReferee T.k_KnownReferee_TooManyReferees T.k_KnownReferee_ValueError fun l H2 hl2 s2 => ?_⟩
    refine ⟨_, rfl, sz2, fun tt htt => fin (e := e) (by unfold dueD; rw [if_neg hb, if_pos hk]) (by unfold addR; rw [if_neg hb, if_pos hk]) hl2 ((same_upd he).trans s2) tt htt⟩
  · refine ⟨a.cTooManyReferees, rfl, T.m_TooManyReferees_BookError, fun e he => added_suite T upd_same T.ei_TooManyReferees T.k_TooManyReferees_OutOfRange T.k_TooManyReferees_KnownReferee T.k_TooManyReferees_TooManyReferees T.k_TooManyReferees_ValueError fun l H2 hl2 s2 => ?_⟩
    refine ⟨_, rfl, sz2, fun tt htt => fin (e := e) (by unfold dueD; rw [if_neg hb, if_neg hk, if_pos hm]) (by unfold addR; rw [if_neg hb, if_neg hk, if_pos hm]) hl2 ((same_upd he).trans s2) tt htt⟩
  · intro H' RA' kp
    refine ⟨sz2, fun tt htt => ?_⟩
    refine h _ _ ?_ ?_ fun b o eb hb2 => same_upd htt b o (kp b o (s0 b o eb) hb2)
    · unfold dueD
      rw [if_neg hb, if_neg hk, if_neg hm]
      exact .tup (SqT.of upd_same) (.cons (.str _) (.cons .non .nil))
    · unfold addR
      rw [if_neg hb, if_neg hk, if_neg hm]
      exact RA'.same (same_upd htt)
end
end K06

set_option Elab.async false
set_option linter.all false
set_option maxRecDepth 100000
set_option maxHeartbeats 4000000
namespace K06
open PySem PySem.Spec PyProof.Rows L2 G
local macro_rules | `(tactic| walk_at "rd") => `(tactic| repeat (first | (refine ⟨_, rfl, ?_⟩) | (refine ⟨_, _, rfl, rfl, ?_⟩) | (refine And.intro (show CMul _ _ from Or.inr (And.intro (by decide) (by decide))) ?_) | (refine And.intro (show CMul _ _ from Or.inl (And.intro (by decide) (by decide))) ?_) | (refine And.intro (show CDiv _ _ from (And.intro (by decide) (by decide))) ?_) | (refine And.intro (show CPow _ _ from (And.intro (by decide) (And.intro (by decide) (by decide)))) ?_) | (refine And.intro (show (0 : Int) < _ from (by decide)) ?_)))
local macro_rules | `(tactic| walk_at "if") => `(tactic| dsimp only [gName, List.set])
local macro_rules | `(tactic| walk_at "ar") => `(tactic| (intro _ _ _ _ h; first | (cases h; subst_vars; rfl) | repeat (first | (obtain ⟨h1, _⟩ := h; subst h1; rfl) | (obtain ⟨_, h⟩ := h))))
section
variable {P : Program} {w : World} {K : PySem.W.Frag} {mg : Str → Option Value} {base : Heap} {a : Ad} {f : Addr} {fd : FuncData}
theorem tOr_pure {t u : TT} {σ : L2.St} {H : Hp} {b c : Bool} (h1 : ∀ Q : Bool → Hp → Prop, Q b H → t σ H Q) (h2 : ∀ Q : Bool → Hp → Prop, Q c H → u σ H Q) (Q : Bool → Hp → Prop) (h : Q (b || c) H) : tOr t u σ H Q := by
  refine h1 _ ?_
  cases b with
  | true => exact h
  | false => exact h2 _ h
theorem if_test {t : TT} {A B : TS} {D : Ends} {σ : L2.St} {H : Hp} {b : Bool} (h1 : ∀ Q : Bool → Hp → Prop, Q b H → t σ H Q) (h : if b = true then A D σ H else B D σ H) : tIfS t A B D σ H := h1 _ h
theorem seq_of {A B : TS} {D : Ends} {σ : L2.St} {H : Hp} (h : A { D with nx := B D } σ H) : tSeq A B D σ H := h
/-! ### what the law keeps -/
inductive KeptL (H : Hp) : List V → RL → Prop where
  | nil : KeptL H [] []
  | cons {t : Addr} {n g c : Int} {ts : List V} {R : RL} (h : H t = some (.tup [.int n, .int g, .int c])) (r : KeptL H ts R) : KeptL H (.ref t :: ts) ((n, g, c) :: R)
theorem KeptL.mono {H H' : Hp} (k : ∀ t xs, H t = some (.tup xs) → H' t = some (.tup xs)) : ∀ {ts : List V} {R : RL}, KeptL H ts R → KeptL H' ts R
  | _, _, .nil => .nil
  | _, _, .cons h r => .cons (k _ _ h) (KeptL.mono k r)
theorem KeptL.length {H : Hp} : ∀ {ts : List V} {R : RL}, KeptL H ts R → ts.length = R.length
  | _, _, .nil => rfl
  | _, _, .cons _ r => by simp [KeptL.length r]
theorem KeptL.snoc {H : Hp} {t : Addr} {n g c : Int} (h : H t = some (.tup [.int n, .int g, .int c])) : ∀ {ts : List V} {R : RL}, KeptL H ts R → KeptL H (ts ++ [.ref t]) (R ++ [(n, g, c)])
  | _, _, .nil => .cons h .nil
  | _, _, .cons h' r => .cons h' (KeptL.snoc h r)
theorem KeptL.get {H : Hp} : ∀ {ts : List V} {R : RL} {i : Nat} {x : V}, KeptL H ts R → ts[i]? = some x → ∃ t n g c, x = .ref t ∧ R[i]? = some (n, g, c) ∧ H t = some (.tup [.int n, .int g, .int c])
  | _, _, _, _, .nil, e => by simp at e
  | _, _, 0, _, .cons h _, e => by simp at e; subst e; exact ⟨_, _, _, _, rfl, rfl, h⟩
  | _, _, i + 1, x, .cons _ r, e => by
    obtain ⟨t, n, g, c, h1, h2, h3⟩ := KeptL.get (i := i) (x := x) r (by simpa using e)
    exact ⟨t, n, g, c, h1, by simpa using h2, h3⟩
/-- the first item of the tuple that a value is -/
def hdV (H : Hp) : V → V
  | .ref t => match H t with
    | some (.tup (v :: _)) => v
    | _ => .non
  | _ => .non
theorem hdV_of {H : Hp} {t : Addr} {v : V} {r : List V} (h : H t = some (.tup (v :: r))) : hdV H (.ref t) = v := by simp only [hdV, h]
theorem KeptL.fst {H : Hp} : ∀ {ts : List V} {R : RL}, KeptL H ts R → ts.map (hdV H) = R.map fun x => V.int x.1
  | _, _, .nil => rfl
  | _, _, .cons h r => by rw [List.map_cons, List.map_cons, KeptL.fst r, hdV_of h]
theorem inV_ints (n : Int) : ∀ (R : RL), inV (.int n) (R.map fun x => V.int x.1) = decide (n ∈ R.map (·.1))
  | [] => rfl
  | x :: R => by
    have ih := inV_ints n R
    unfold inV at ih ⊢
    rw [List.map_cons, List.any_cons, ih, List.map_cons]
    by_cases h : x.1 = n
    · have : eqV (.int x.1) (.int n) = true := by simp [eqV, h]
      have e : n ∈ x.1 :: R.map (·.1) := by rw [h]; exact List.mem_cons_self
      rw [this, decide_eq_true e]; rfl
    · have : eqV (.int x.1) (.int n) = false := by simp [eqV, h]
      rw [this, Bool.false_or]
      by_cases h2 : n ∈ R.map (·.1)
      · rw [decide_eq_true h2, decide_eq_true (List.mem_cons_of_mem _ h2)]
      · rw [decide_eq_false h2, decide_eq_false (by rw [List.mem_cons, not_or]; exact ⟨fun z => h z.symm, h2⟩)]
/-! ### _law_due -/
abbrev s_law_due : Stmt := top 23
theorem sc_law_due : FnScope ["_law_kept", "_law_person_here", "_law_number", "_law_grade", "_law_club"] ["_law_kept", "_law_person_here"] (defScope s_law_due) := ⟨rfl, rfl, rfl, by decide +kernel, rfl, by decide +kernel, by decide +kernel⟩
def spDue (K : PySem.W.Frag) : Sp := fun vs H Q _ => ∃ lk ts R t n g c, vs = [.ref lk, .ref t] ∧ H lk = some (.lst ts) ∧ KeptL H ts R ∧ H t = some (.tup [.int n, .int g, .int c]) ∧ R.length ≤ 30 ∧
  ∀ v H', Is K H' v (dueD R n g c) → Same H H' → Q v H'
theorem due_ref {Q : VK} {x y z : Bool} {σ : L2.St} {H : Hp} {D : Ends} (hD : D.rt = Q) (k : ∀ v H', Is K H' v (refD x y z) → Same H H' → Q v H') :
    tRet (tTup (tCons (tC (V.str "refused")) (tCons (tLst (tCons (tC (V.bl x)) (tCons (tC (V.bl y)) (tCons (tC (V.bl z)) (tCons (tC (V.bl true)) tNil))))) tNil))) D σ H := by
  refine ⟨sz4, fun l hl => ⟨sz2, fun t ht => ?_⟩⟩
  rw [hD]
  refine k _ _ (.tup (SqT.of upd_same) (.cons (.str _) (.cons (.lst (SqL.of (by rw [upd_ne (ne_of_none upd_same ht)]; exact upd_same)) (.cons (.bl _) (.cons (.bl _) (.cons (.bl _) (.cons (.bl _) .nil))))) .nil))) ((same_upd hl).trans (same_upd ht))
theorem ok_law_due (F : Fun K "_law_due" "_law_due" s_law_due f fd) (T : Tx K mg a) : FnOk P w K mg base (CX1 P w) 1 f fd ["_law_kept", "_law_person_here"] (spDue K) := by
  refine F.okX sc_law_due (fun vs H Q E h => ?_) (fun cdv A outer s H vs Q E hr h => ?_)
  · obtain ⟨lk, ts, R, t, n, g, c, rfl, _⟩ := h
    rfl
  obtain ⟨lk, ts, R, t, n, g, c, rfl, hlk, kl, ht, hl, h⟩ := h
  have hu := hu_of hr
  refine ⟨_, (pss_cons (ps_asg (pv 1) (pg_tupK (K := K) (n := 3) rfl rfl (pgs_cons (pg_name (i := 2) sc_law_due.nd rfl (by first | exact Or.inl rfl | exact Or.inr rfl)) (pgs_cons (pg_name (i := 3) sc_law_due.nd rfl (by first | exact Or.inl rfl | exact Or.inr rfl)) (pgs_cons (pg_name (i := 4) sc_law_due.nd rfl (by first | exact Or.inl rfl | exact Or.inr rfl)) pgs_nil)))))
  (pss_cons (ps_if (PW.pt (pw_or (pt_cmpR op_lt (pv 2) pe_int (nomark _)) (pw_or (pt_cmpR op_gt (pv 2) pe_int (nomark _)) (pw_or (pt_cmpR op_lt (pv 3) pe_int (nomark _)) (pw_or (pt_cmpR op_gt (pv 3) pe_int (nomark _)) (pw_or (pt_cmpR op_lt (pv 4) pe_int (nomark _)) (pw_or1 (pt_cmpR op_gt (pv 4) pe_int (nomark _)))))))))
    (pss_one (ps_ret (pe_tup (pa_cons pe_str (pa_cons (pe_lst (pa_cons pe_bl (pa_cons pe_bl (pa_cons pe_bl (pa_cons pe_bl pa_nil))))) pa_nil)))))
    pss_nil)
  (pss_cons (ps_if (pt_cmpR (op_in_seqK (K := K) rfl) (pv 2) (pe_comp rfl (CompT.mk (ys := []) (js := []) rfl rfl (by decide +kernel) (by decide +kernel) rfl (by decide +kernel) rfl (by repeat' (first | exact True.intro | apply And.intro | rfl)) (by repeat' (first | exact True.intro | apply And.intro | rfl)) (by decide +kernel)) (pi_listK (K := K) rfl (pv 0)) (fun _ _ _ _ _ => pts_nil) (fun _ _ _ _ _ => (pe_ix (ix_tupK (K := K) rfl) (pv 0) pe_int (fun _ _ => rfl)))) (by with_unfolding_all rfl))
    (pss_one (ps_ret (pe_tup (pa_cons pe_str (pa_cons (pe_lst (pa_cons pe_bl (pa_cons pe_bl (pa_cons pe_bl (pa_cons pe_bl pa_nil))))) pa_nil)))))
    pss_nil)
  (pss_cons (ps_if (pt_cmpR op_eq (pe_callB (call_len_seqK (K := K) rfl) (by rfl) T.z_len PySem.boot_len (pa_cons (pv 0) pa_nil)) pe_int (nomark _))
    (pss_one (ps_ret (pe_tup (pa_cons pe_str (pa_cons (pe_lst (pa_cons pe_bl (pa_cons pe_bl (pa_cons pe_bl (pa_cons pe_bl pa_nil))))) pa_nil)))))
    pss_nil)
  (pss_one (ps_ret (pe_tup (pa_cons pe_str (pa_cons pe_non pa_nil))))))))), ?_⟩
  refine ⟨_, rfl, t, _, rfl, SqT.of ht, rfl, _, _, rfl, _, _, rfl, _, _, rfl, rfl, ?_⟩
  have eb : (decide (n < 1) || (decide (999 < n) || (decide (g < 1) || (decide (9 < g) || (decide (c < 1) || decide (99 < c)))))) = decide (badI n g c) := by
    by_cases hb : badI n g c
    · rw [decide_eq_true hb]
      unfold badI at hb
      simp only [Bool.or_eq_true, decide_eq_true_eq]
      exact hb
    · rw [decide_eq_false hb]
      unfold badI at hb
      simp only [not_or] at hb
      obtain ⟨b1, b2, b3, b4, b5, b6⟩ := hb
      rw [decide_eq_false b1, decide_eq_false b2, decide_eq_false b3, decide_eq_false b4, decide_eq_false b5, decide_eq_false b6]
      rfl
  dsimp only
  refine seq_of (if_test (b := decide (badI n g c)) (eb ▸ tOr_pure (fun Q q => ⟨_, rfl, _, _, rfl, rfl, _, rfl, q⟩) (tOr_pure (fun Q q => ⟨_, rfl, _, _, rfl, rfl, _, rfl, q⟩) (tOr_pure (fun Q q => ⟨_, rfl, _, _, rfl, rfl, _, rfl, q⟩) (tOr_pure (fun Q q => ⟨_, rfl, _, _, rfl, rfl, _, rfl, q⟩)
    (tOr_pure (fun Q q => ⟨_, rfl, _, _, rfl, rfl, _, rfl, q⟩) (fun Q q => ⟨_, rfl, _, _, rfl, rfl, _, rfl, q⟩)))))) ?_)
  refine itD (fun hb => ?_) (fun hb => ?_)
  · exact due_ref (Q := Q) rfl fun v H' hv hs => h v H' (by unfold dueD; rw [if_pos hb]; exact hv) hs
  refine ⟨_, rfl, _, rfl, lk, rfl, ⟨_, SqL.of hlk⟩, L2.comp_map (hdV H) (SqL.of hlk) (by rw [kl.length]; exact Nat.le_trans hl (by decide)) (fun i x R' hx k => ?_) (fun p hp => ?_)⟩
  · obtain ⟨t', n', g', c', rfl, _, ht'⟩ := kl.get hx
    rw [hdV_of ht'] at k
    exact ⟨_, rfl, t', _, _, _, rfl, rfl, SqT.of ht', (show atI [V.int n', V.int g', V.int c'] 0 = some _ from rfl), k⟩
  rw [kl.fst]
  have hs := same_upd (o := .lst (R.map fun x => V.int x.1)) hp
  refine ⟨p, _, rfl, .inl (SqL.of upd_same), rfl, (by rw [List.all_map]; exact List.all_eq_true.mpr fun _ _ => rfl), _, (show V.bl (inV (.int n) (R.map fun x => V.int x.1)) = V.bl (decide (n ∈ R.map (·.1))) by rw [inV_ints]), ?_⟩
  refine itD (fun hn => ?_) (fun hn => ?_)
  · exact due_ref (Q := Q) rfl fun v H' hv hs' => h v H' (by unfold dueD; rw [if_neg hb, if_pos hn]; exact hv) (hs.trans hs')
  refine ⟨_, rfl, lk, _, rfl, .inl (SqL.of (hs _ _ hlk)), rfl, _, rfl, ?_⟩
  rw [dec_int', kl.length]
  refine itD (fun hz => ?_) (fun hz => ?_)
  · exact due_ref (Q := Q) rfl fun v H' hv hs' => h v H' (by unfold dueD; rw [if_neg hb, if_neg hn, if_pos (by omega)]; exact hv) (hs.trans hs')
  · refine ⟨sz2, fun tt htt => h _ _ ?_ (hs.trans (same_upd htt))⟩
    unfold dueD
    rw [if_neg hb, if_neg hn, if_neg (by omega)]
    exact .tup (SqT.of upd_same) (.cons (.str _) (.cons .non .nil))
end
end K06

set_option Elab.async false
set_option linter.all false
set_option maxRecDepth 100000
set_option maxHeartbeats 4000000
namespace K06
open PySem PySem.Spec PyProof.Rows L2 G
local macro_rules | `(tactic| walk_at "rd") => `(tactic| repeat (first | (refine ⟨_, rfl, ?_⟩) | (refine ⟨_, _, rfl, rfl, ?_⟩) | (refine And.intro (show CMul _ _ from Or.inr (And.intro (by decide) (by decide))) ?_) | (refine And.intro (show CMul _ _ from Or.inl (And.intro (by decide) (by decide))) ?_) | (refine And.intro (show CDiv _ _ from (And.intro (by decide) (by decide))) ?_) | (refine And.intro (show CPow _ _ from (And.intro (by decide) (And.intro (by decide) (by decide)))) ?_) | (refine And.intro (show (0 : Int) < _ from (by decide)) ?_)))
local macro_rules | `(tactic| walk_at "if") => `(tactic| dsimp only [gName, List.set])
local macro_rules | `(tactic| walk_at "ar") => `(tactic| (intro _ _ _ _ h; first | (cases h; subst_vars; rfl) | repeat (first | (obtain ⟨h1, _⟩ := h; subst h1; rfl) | (obtain ⟨_, h⟩ := h))))
section
variable {P : Program} {w : World} {K : PySem.W.Frag} {mg : Str → Option Value} {base : Heap} {a : Ad} {f : Addr} {fd : FuncData}
theorem itV {i j : Int} {A B : Prop} (h1 : i = j → A) (h2 : ¬ i = j → B) : if decide (V.int i = V.int j) = true then A else B := by
  rw [dec_int']; exact itD h1 h2
/-! ### _law_person -/
abbrev s_law_person : Stmt := top 24
theorem sc_law_person : FnScope ["_law_cell", "_law_pool", "_law_number", "_law_grade", "_law_club", "_law_bad"] ["_law_cell", "_law_pool"] (defScope s_law_person) := ⟨rfl, rfl, rfl, by decide +kernel, rfl, by decide +kernel, by decide +kernel⟩
def nP (pool : List Int) (x : Int) : Int := if x / 7 % 18 = 3 then ([0, 1000, -1, 10 ^ 20] : List Int).getD (x / 7 / 18 % 4).toNat 0 else pool.getD (x % 40).toNat 0
def gP (x : Int) : Int := if x / 7 % 18 = 9 then ([0, 10] : List Int).getD (x / 7 / 18 % 2).toNat 0 else 1 + x / 40 % 9
def cP (x : Int) : Int := if x / 7 % 18 = 15 then ([0, 100] : List Int).getD (x / 7 / 18 % 2).toNat 0 else 1 + x / 360 % 99
def spPerson (K : PySem.W.Frag) : Sp := fun vs H Q _ => ∃ (x : Int) (b : Addr) (pool : List Int), vs = [.int x, .ref b] ∧ SqL K H b (pool.map V.int) ∧ pool.length = 40 ∧
  ∀ t H', H' t = some (.tup [.int (nP pool x), .int (gP x), .int (cP x)]) → Same H H' → H t = none → Q (.ref t) H'
theorem ok_law_person (F : Fun K "_law_person" "_law_person" s_law_person f fd) (T : Tx K mg a) : FnOk P w K mg base (CX1 P w) 1 f fd ["_law_cell", "_law_pool"] (spPerson K) := by
  refine F.okX sc_law_person (fun vs H Q E h => ?_) (fun cdv A outer s H vs Q E hr h => ?_)
  · obtain ⟨x, b, pool, rfl, _⟩ := h
    rfl
  obtain ⟨x, b, pool, rfl, hb, hp, h⟩ := h
  have hu := hu_of hr
  refine ⟨_, (pss_cons (ps_set (i := 2) sc_law_person.nd rfl (by first | exact Or.inl rfl | exact Or.inr rfl) (pe_ix (ix_listK (K := K) rfl) (pv 1) (pe_op op_mod (pv 0) pe_int) (fun _ _ => rfl)))
  (pss_cons (ps_set (i := 3) sc_law_person.nd rfl (by first | exact Or.inl rfl | exact Or.inr rfl) (pe_op op_add pe_int (pe_op op_mod (pe_op op_fdiv (pv 0) pe_int) pe_int)))
  (pss_cons (ps_set (i := 4) sc_law_person.nd rfl (by first | exact Or.inl rfl | exact Or.inr rfl) (pe_op op_add pe_int (pe_op op_mod (pe_op op_fdiv (pv 0) pe_int) pe_int)))
  (pss_cons (ps_set (i := 5) sc_law_person.nd rfl (by first | exact Or.inl rfl | exact Or.inr rfl) (pe_op op_fdiv (pv 0) pe_int))
  (pss_cons (ps_if (pt_cmpR op_eq (pe_op op_mod (pv 5) pe_int) pe_int (nomark _))
    (pss_one (ps_set (i := 2) sc_law_person.nd rfl (by first | exact Or.inl rfl | exact Or.inr rfl) (pe_ix (ix_listK (K := K) rfl) (pe_lst (pa_cons pe_int (pa_cons pe_int (pa_cons (pe_un un_neg pe_int) (pa_cons (pe_op op_pow pe_int pe_int) pa_nil))))) (pe_op op_mod (pe_op op_fdiv (pv 5) pe_int) pe_int) (fun _ _ => rfl))))
    pss_nil)
  (pss_cons (ps_if (pt_cmpR op_eq (pe_op op_mod (pv 5) pe_int) pe_int (nomark _))
    (pss_one (ps_set (i := 3) sc_law_person.nd rfl (by first | exact Or.inl rfl | exact Or.inr rfl) (pe_ix (ix_listK (K := K) rfl) (pe_lst (pa_cons pe_int (pa_cons pe_int pa_nil))) (pe_op op_mod (pe_op op_fdiv (pv 5) pe_int) pe_int) (fun _ _ => rfl))))
    pss_nil)
  (pss_cons (ps_if (pt_cmpR op_eq (pe_op op_mod (pv 5) pe_int) pe_int (nomark _))
    (pss_one (ps_set (i := 4) sc_law_person.nd rfl (by first | exact Or.inl rfl | exact Or.inr rfl) (pe_ix (ix_listK (K := K) rfl) (pe_lst (pa_cons pe_int (pa_cons pe_int pa_nil))) (pe_op op_mod (pe_op op_fdiv (pv 5) pe_int) pe_int) (fun _ _ => rfl))))
    pss_nil)
  (pss_one (ps_ret (pe_tup (pa_cons (pv 2) (pa_cons (pv 3) (pa_cons (pv 4) pa_nil))))))))))))), ?_⟩
  walk_at "rd"
  refine ⟨b, _, _, _, rfl, rfl, hb, atI_ints (xs := pool) (by omega) (by rw [hp]; omega), ?_⟩
  walk_at "rd"
  refine ⟨rfl, _, rfl, ?_⟩
  -- behind a choice the rest is the same: each way brings its number and a larger heap
  refine itV (fun h1 => ?_) (fun h1 => ?_)
  · walk_at "rd"
    refine ⟨by show 4 ≤ sizeLine; decide, fun p1 hp1 => ?_⟩
    walk_at "rd"
    refine ⟨p1, _, _, _, rfl, rfl, SqL.of upd_same, atI_ints (xs := [0, 1000, -1, 10 ^ 20]) (by omega) (by show _ < 4; omega), ?_⟩
    walk_at "rd"
    refine ⟨rfl, _, rfl, ?_⟩
    refine itV (fun h2 => absurd (h1.symm.trans h2) (by decide)) (fun h2 => ?_)
    walk_at "rd"
    refine ⟨rfl, _, rfl, ?_⟩
    refine itV (fun h3 => absurd (h1.symm.trans h3) (by decide)) (fun h3 => ?_)
    walk_at "rd"
    refine ⟨sz3, fun tt htt => h tt _ ?_ ((same_upd hp1).trans (same_upd htt)) ((same_upd hp1).free htt)⟩
    rw [upd_same]
    unfold nP gP cP
    rw [if_pos h1, if_neg h2, if_neg h3]
  · walk_at "rd"
    refine ⟨rfl, _, rfl, ?_⟩
    refine itV (fun h2 => ?_) (fun h2 => ?_)
    · walk_at "rd"
      refine ⟨sz2, fun p1 hp1 => ?_⟩
      walk_at "rd"
      refine ⟨p1, _, _, _, rfl, rfl, SqL.of upd_same, atI_ints (xs := [0, 10]) (by omega) (by show _ < 2; omega), ?_⟩
      walk_at "rd"
      refine ⟨rfl, _, rfl, ?_⟩
      refine itV (fun h3 => absurd (h2.symm.trans h3) (by decide)) (fun h3 => ?_)
      walk_at "rd"
      refine ⟨sz3, fun tt htt => h tt _ ?_ ((same_upd hp1).trans (same_upd htt)) ((same_upd hp1).free htt)⟩
      rw [upd_same]
      unfold nP gP cP
      rw [if_neg h1, if_pos h2, if_neg h3]
    · walk_at "rd"
      refine ⟨rfl, _, rfl, ?_⟩
      refine itV (fun h3 => ?_) (fun h3 => ?_)
      · walk_at "rd"
        refine ⟨sz2, fun p1 hp1 => ?_⟩
        walk_at "rd"
        refine ⟨p1, _, _, _, rfl, rfl, SqL.of upd_same, atI_ints (xs := [0, 100]) (by omega) (by show _ < 2; omega), ?_⟩
        walk_at "rd"
        refine ⟨sz3, fun tt htt => h tt _ ?_ ((same_upd hp1).trans (same_upd htt)) ((same_upd hp1).free htt)⟩
        rw [upd_same]
        unfold nP gP cP
        rw [if_neg h1, if_neg h2, if_pos h3]
      · walk_at "rd"
        refine ⟨sz3, fun tt htt => h tt _ ?_ (same_upd htt) htt⟩
        rw [upd_same]
        unfold nP gP cP
        rw [if_neg h1, if_neg h2, if_neg h3]
/-! ### _law_unknown -/
abbrev s_law_unknown : Stmt := top 25
theorem sc_law_unknown : FnScope ["_law_roster", "_law_number", "_law_hits"] ["_law_roster", "_law_number"] (defScope s_law_unknown) := ⟨rfl, rfl, rfl, by decide +kernel, rfl, by decide +kernel, by decide +kernel⟩
def spUnknown (a : Ad) : Sp := fun vs H Q _ => ∃ p d R n, vs = [.ref p, .int n] ∧ RosAt a.cRoster H p d R ∧ smallI n ∧ n ∉ R.map (·.1) ∧ Q (.bl true) H
theorem ok_law_unknown (F : Fun K "_law_unknown" "_law_unknown" s_law_unknown f fd) (T : Tx K mg a) (M_Roster_grade : MethOk P w K mg base a.cRoster "grade" 3 ["self", "number"] (spGrade a)) (M_Roster_club : MethOk P w K mg base a.cRoster "club" 3 ["self", "number"] (spClub a)) (M_Roster_has : MethOk P w K mg base a.cRoster "has" 1 ["self", "number"] (spHas a)) : FnOk P w K mg base (CX1 P w) 4 f fd ["_law_roster", "_law_number"] (spUnknown a) := by
  refine F.okX sc_law_unknown (fun vs H Q E h => ?_) (fun cdv A outer s H vs Q E hr h => ?_)
  · obtain ⟨p, d, R, n, rfl, _⟩ := h
    rfl
  obtain ⟨p, d, R, n, rfl, RA, sn, hn, h⟩ := h
  have hu := hu_of hr
  refine ⟨_, (pss_cons (ps_set (i := 2) sc_law_unknown.nd rfl (by first | exact Or.inl rfl | exact Or.inr rfl) pe_int)
  (pss_cons (ps_try (as := []) body_cxOf T.ca_UnknownReferee rfl T.gc_UnknownReferee
    (fun E1 lk1 pn1 EX1 hl1 hO hP =>
    (pss_one (ps_expr (pe_mt (pv 0) T.c_Roster M_Roster_grade (hr.mono (by decide)) hP (pa_cons (pv 1) pa_nil)))))
    (fun a1 =>
    (pss_one (ps_set (i := 2) sc_law_unknown.nd rfl (by first | exact Or.inl rfl | exact Or.inr rfl) (pe_op op_add (pv 2) pe_int)))))
  (pss_cons (ps_try (as := []) body_cxOf T.ca_UnknownReferee rfl T.gc_UnknownReferee
    (fun E1 lk1 pn1 EX1 hl1 hO hP =>
    (pss_one (ps_expr (pe_mt (pv 0) T.c_Roster M_Roster_club (hr.mono (by decide)) hP (pa_cons (pv 1) pa_nil)))))
    (fun a1 =>
    (pss_one (ps_set (i := 2) sc_law_unknown.nd rfl (by first | exact Or.inl rfl | exact Or.inr rfl) (pe_op op_add (pv 2) pe_int)))))
  (pss_one (ps_ret (pe_and (pe_cmpR op_eq (pv 2) pe_int (nomark _)) (pe_one (pe_cmpR op_isB (pe_mt (pv 0) T.c_Roster M_Roster_has (hr.mono (by decide)) passes_fn (pa_cons (pv 1) pa_nil)) pe_bl (nomark _))))))))), ?_⟩
  obtain ⟨⟨dx, kvs, hp, hd, en⟩, nd⟩ := id RA
  have no : ∀ g c, (n, g, c) ∈ R → False := fun g c q => hn (List.mem_map.mpr ⟨_, q, rfl⟩)
  refine ⟨_, rfl, p, dx, _, rfl, hp, RosAt.no (by decide +kernel), _, rfl, p, d, R, n, rfl, RA, sn, fun _ => ⟨a.cUnknownReferee, rfl, T.m_UnknownReferee_UnknownReferee, ?_⟩, fun g c q => (no g c q).elim⟩
  walk_at "rd"
  refine ⟨p, dx, _, rfl, hp, RosAt.no (by decide +kernel), _, rfl, p, d, R, n, rfl, RA, sn, fun _ => ⟨a.cUnknownReferee, rfl, T.m_UnknownReferee_UnknownReferee, ?_⟩, fun g c q => (no g c q).elim⟩
  walk_at "rd"
  refine ⟨rfl, _, rfl, ?_⟩
  refine iteT ?_
  refine ⟨_, rfl, p, dx, _, rfl, hp, RosAt.no (by decide +kernel), _, rfl, p, d, R, n, rfl, RA, _, _, rfl, rfl, ?_⟩
  rw [decide_eq_false hn]
  exact h
end
end K06

set_option Elab.async false
set_option linter.all false
set_option maxRecDepth 100000
set_option maxHeartbeats 4000000
namespace K06
open PySem PySem.Spec PyProof.Rows L2 G
local macro_rules | `(tactic| walk_at "rd") => `(tactic| repeat (first | (refine ⟨_, rfl, ?_⟩) | (refine ⟨_, _, rfl, rfl, ?_⟩) | (refine And.intro (show CMul _ _ from Or.inr (And.intro (by decide) (by decide))) ?_) | (refine And.intro (show CMul _ _ from Or.inl (And.intro (by decide) (by decide))) ?_) | (refine And.intro (show CDiv _ _ from (And.intro (by decide) (by decide))) ?_) | (refine And.intro (show CPow _ _ from (And.intro (by decide) (And.intro (by decide) (by decide)))) ?_) | (refine And.intro (show (0 : Int) < _ from (by decide)) ?_)))
local macro_rules | `(tactic| walk_at "if") => `(tactic| dsimp only [gName, List.set])
local macro_rules | `(tactic| walk_at "ar") => `(tactic| (intro _ _ _ _ h; first | (cases h; subst_vars; rfl) | repeat (first | (obtain ⟨h1, _⟩ := h; subst h1; rfl) | (obtain ⟨_, h⟩ := h))))
section
variable {P : Program} {w : World} {K : PySem.W.Frag} {mg : Str → Option Value} {base : Heap} {a : Ad} {f : Addr} {fd : FuncData}
/-! ### _law_keeps -/
def isN (H : Hp) (q : Int) (x : V) : Bool := decide (hdV H x = .int q)
theorem KeptL.filter {H : Hp} {q : Int} : ∀ {ts : List V} {R : RL}, KeptL H ts R → KeptL H (ts.filter (isN H q)) (R.filter fun x => decide (x.1 = q))
  | _, _, .nil => .nil
  | _, _, .cons (t := t) (n := n) h r => by
    have ih := KeptL.filter (q := q) r
    have e : isN H q (.ref t) = decide (n = q) := by unfold isN; rw [hdV_of h, dec_int']
    rw [List.filter_cons, List.filter_cons, e]
    by_cases hn : n = q
    · rw [if_pos (decide_eq_true hn), if_pos (decide_eq_true hn)]; exact .cons h ih
    · rw [if_neg (by rw [decide_eq_false hn]; decide), if_neg (by rw [decide_eq_false hn]; decide)]; exact ih
def tupD (x : Int × Int × Int) : Dt := .tup [.int x.1, .int x.2.1, .int x.2.2]
theorem KeptL.isAll {H : Hp} : ∀ {ts : List V} {R : RL}, KeptL H ts R → IsAll K H ts (R.map tupD)
  | _, _, .nil => .nil
  | _, _, .cons h r => .cons (.tup (SqT.of h) (.cons (.int _) (.cons (.int _) (.cons (.int _) .nil)))) (KeptL.isAll r)
theorem sh_tups (R : RL) : shD (.lst (R.map tupD)) := by
  have h1 : ∀ R : RL, PyData.canLayAll0 (toPys (R.map tupD)) = true := fun R => by
    induction R with
    | nil => rfl
    | cons x R ih => rw [List.map_cons, toPys, PyData.canLayAll0, ih]; rfl
  have h2 : ∀ R : RL, PyData.depthAll (toPys (R.map tupD)) ≤ 2 := fun R => by
    induction R with
    | nil => decide
    | cons x R ih =>
      rw [List.map_cons, toPys, PyData.depthAll]
      have : PyData.depth (toPy (tupD x)) ≤ 2 := by simp [tupD, toPy, toPys, PyData.depth, PyData.depthAll]
      omega
  unfold shD SeqAt.shaped
  rw [toPy, PyData.canLay0, h1, Bool.true_and]
  refine decide_eq_true ?_
  rw [PyData.depth]
  have := h2 R
  omega
theorem sh_nil : shD (.lst []) := sh_tups []
theorem eqDs_nil (R : RL) : eqD (.lst (R.map tupD)) (.lst []) = decide (R = []) := by
  cases R with
  | nil => simp [eqD, eqDs]
  | cons x R => simp [eqD, eqDs]
theorem nodup_eq {R : RL} {n g c g' c' : Int} (nd : (R.map (·.1)).Nodup) (h1 : (n, g, c) ∈ R) (h2 : (n, g', c') ∈ R) : g' = g ∧ c' = c := by
  induction R with
  | nil => simp at h1
  | cons x R ih =>
    rw [List.map_cons, List.nodup_cons] at nd
    rcases List.mem_cons.mp h1 with e1 | e1
    · rcases List.mem_cons.mp h2 with e2 | e2
      · rw [← e1] at e2; cases e2; exact ⟨rfl, rfl⟩
      · exact absurd (List.mem_map.mpr ⟨_, e2, by rw [← e1]⟩) nd.1
    · rcases List.mem_cons.mp h2 with e2 | e2
      · exact absurd (List.mem_map.mpr ⟨_, e1, by rw [← e2]⟩) nd.1
      · exact ih nd.2 e1 e2
abbrev s_law_keeps : Stmt := top 26
theorem sc_law_keeps : FnScope ["_law_roster", "_law_kept", "_law_asked", "_law_number", "_law_mine"] ["_law_roster", "_law_kept", "_law_asked"] (defScope s_law_keeps) := ⟨rfl, rfl, rfl, by decide +kernel, rfl, by decide +kernel, by decide +kernel⟩
def spKeeps (K : PySem.W.Frag) (a : Ad) : Sp := fun vs H Q _ => ∃ (p d : Addr) (R : RL) (lk : Addr) (ts : List V) (lq : Addr) (qs : List Int), vs = [.ref p, .ref lk, .ref lq] ∧ RosAt a.cRoster H p d R ∧ H lk = some (.lst ts) ∧ KeptL H ts R ∧ R.length ≤ 30 ∧ SqL K H lq (qs.map V.int) ∧ (∀ q ∈ qs, smallI q) ∧ ∀ H', Same H H' → Q (.bl true) H'
theorem ok_law_keeps (F : Fun K "_law_keeps" "_law_keeps" s_law_keeps f fd) (T : Tx K mg a) (D_law_list_is : DefOk P w K mg base "_law_list_is" 3 ["_law_found", "_law_due_here"] (spListIs K)) (M_Roster_numbers : MethOk P w K mg base a.cRoster "numbers" 1 ["self"] (spNumbers a)) (D_law_unknown : DefOk P w K mg base "_law_unknown" 4 ["_law_roster", "_law_number"] (spUnknown a)) (M_Roster_has : MethOk P w K mg base a.cRoster "has" 1 ["self", "number"] (spHas a)) (D_law_one_is : DefOk P w K mg base "_law_one_is" 2 ["_law_found", "_law_due_here"] spOneIs) (M_Roster_grade : MethOk P w K mg base a.cRoster "grade" 3 ["self", "number"] (spGrade a)) (M_Roster_club : MethOk P w K mg base a.cRoster "club" 3 ["self", "number"] (spClub a)) : FnOk P w K mg base (CX1 P w) 5 f fd ["_law_roster", "_law_kept", "_law_asked"] (spKeeps K a) := by
  refine F.okX sc_law_keeps (fun vs H Q E h => ?_) (fun cdv A outer s H vs Q E hr h => ?_)
  · obtain ⟨p, d, R, lk, ts, lq, qs, rfl, _⟩ := h
    rfl
  obtain ⟨p, d, R, lk, ts, lq, qs, rfl, RA, hlk, kl, hl, hq, hsm, h⟩ := h
  have hu := hu_of hr
  refine ⟨_, (pss_cons (ps_if (pt_not (pt_val (pe_fn D_law_list_is (hr.mono (by decide)) passes_fn rfl (pa_cons (pe_mt0 (pv 0) T.c_Roster M_Roster_numbers (hr.mono (by decide)) passes_fn) (pa_cons (pe_comp rfl (CompT.mk (ys := []) (js := []) rfl rfl (by decide +kernel) (by decide +kernel) rfl (by decide +kernel) rfl (by repeat' (first | exact True.intro | apply And.intro | rfl)) (by repeat' (first | exact True.intro | apply And.intro | rfl)) (by decide +kernel)) (pi_listK (K := K) rfl (pv 1)) (fun _ _ _ _ _ => pts_nil) (fun _ _ _ _ _ => (pe_ix (ix_tupK (K := K) rfl) (pv 0) pe_int (fun _ _ => rfl)))) pa_nil)))))
    (pss_one (ps_ret pe_bl))
    pss_nil)
  (pss_cons (ps_for PassesOwn.leaving rfl (pi_listK (K := K) rfl (pv 2)) (pg_name (i := 3) sc_law_keeps.nd rfl (by first | exact Or.inl rfl | exact Or.inr rfl))
    (pss_cons (ps_setComp (i := 4) sc_law_keeps.nd rfl rfl rfl (CompT.mk (ys := ["_law_number"]) (js := [3]) rfl rfl (by decide +kernel) (by decide +kernel) rfl (by decide +kernel) rfl (by repeat' (first | exact True.intro | apply And.intro | rfl)) (by repeat' (first | exact True.intro | apply And.intro | rfl)) (by decide +kernel)) (pi_listK (K := K) rfl (pv 1)) (fun _ _ _ _ _ => pts_one (pt_cmpR op_eq (pe_ix (ix_tupK (K := K) rfl) (pv 0) pe_int (fun _ _ => rfl)) (pv 1) (nomark _))) (fun _ _ _ _ _ => (pv 0)))
    (pss_one (ps_if (pt_cmpR (op_eqDK (K := K) rfl hr.units) (pv 4) (pe_lst pa_nil) (nomark _))
      (pss_one (ps_if (pt_not (pt_val (pe_fn D_law_unknown (hr.mono (by decide)) passes_fn rfl (pa_cons (pv 0) (pa_cons (pv 3) pa_nil)))))
        (pss_one (ps_ret pe_bl))
        pss_nil))
      (pss_one (ps_if (PW.pt (pw_or (pt_cmpR op_isnotB (pe_mt (pv 0) T.c_Roster M_Roster_has (hr.mono (by decide)) passes_fn (pa_cons (pv 3) pa_nil)) pe_bl (nomark _)) (pw_or1 (pt_not (pt_val (pe_fn D_law_one_is (hr.mono (by decide)) passes_fn rfl (pa_cons (pe_mt (pv 0) T.c_Roster M_Roster_grade (hr.mono (by decide)) passes_fn (pa_cons (pv 3) pa_nil)) (pa_cons (pe_ix (ix_tupK (K := K) rfl) (pe_ix (ix_listK (K := K) rfl) (pv 4) pe_int (fun _ _ => rfl)) pe_int (fun _ _ => rfl)) pa_nil))))))))
        (pss_one (ps_ret pe_bl))
        (pss_one (ps_if (pt_not (pt_val (pe_fn D_law_one_is (hr.mono (by decide)) passes_fn rfl (pa_cons (pe_mt (pv 0) T.c_Roster M_Roster_club (hr.mono (by decide)) passes_fn (pa_cons (pv 3) pa_nil)) (pa_cons (pe_ix (ix_tupK (K := K) rfl) (pe_ix (ix_listK (K := K) rfl) (pv 4) pe_int (fun _ _ => rfl)) pe_int (fun _ _ => rfl)) pa_nil)))))
          (pss_one (ps_ret pe_bl))
          pss_nil))))))))
  (pss_one (ps_ret pe_bl)))), ?_⟩
  obtain ⟨⟨dx, kvs, hp, hd, en⟩, nd⟩ := id RA
  refine ⟨_, rfl, p, dx, _, rfl, hp, RosAt.no (by decide +kernel), p, d, R, rfl, RA, fun l1 hl1 => ?_⟩
  have s1 := same_upd (o := .lst (R.map fun x => V.int x.1)) hl1
  have kl1 := kl.mono fun t xs q => s1 t _ q
  refine ⟨_, rfl, lk, rfl, ⟨_, SqL.of (s1 _ _ hlk)⟩, L2.comp_map (hdV (upd H l1 (.lst (R.map fun x => V.int x.1)))) (SqL.of (s1 _ _ hlk)) (by rw [kl.length]; exact Nat.le_trans hl (by decide)) (fun i x R' hx k => ?_) (fun l2 hl2 => ?_)⟩
  · obtain ⟨t', n', g', c', rfl, _, ht'⟩ := kl1.get hx
    rw [hdV_of ht'] at k
    exact ⟨_, rfl, t', _, _, _, rfl, rfl, SqT.of ht', (show atI [V.int n', V.int g', V.int c'] 0 = some _ from rfl), k⟩
  rw [kl1.fst]
  have s2 := same_upd (o := .lst (R.map fun x => V.int x.1)) hl2
  have em : (R.map fun x => V.int x.1) = (R.map (·.1)).map V.int := by rw [List.map_map]; rfl
  refine ⟨l1, l2, R.map (·.1), R.map (·.1), rfl, (by rw [← em]; exact s2 _ _ upd_same), (by rw [← em]; exact SqL.of upd_same), (by rw [List.length_map]; omega), _, rfl, ?_⟩
  rw [decide_eq_true rfl]
  refine iteF ?_
  have s12 := s1.trans s2
  -- for number in asked
  refine ⟨_, rfl, lq, rfl, ⟨_, s12.seq hq⟩, for_list (K := K) (a := lq) (xs := qs.map V.int) (fun i σ H2 => ∃ (v m : Option V), σ = [some (.ref p), some (.ref lk), some (.ref lq), v, m] ∧ Same H H2)
    ⟨none, none, rfl, s12⟩ (fun i σ H2 _ ⟨_, _, _, s3⟩ => s3.seq hq) ?_ (fun σ H2 ⟨v, m, e, s3⟩ => ?_)⟩
  · rintro i y σ H2 hi ⟨v, m, rfl, s3⟩
    obtain ⟨z, hz, rfl⟩ : ∃ z, z ∈ qs ∧ y = V.int z := by
      rw [List.getElem?_map] at hi
      cases e : qs[i]? with
      | none => rw [e] at hi; cases hi
      | some z => rw [e] at hi; exact ⟨z, List.mem_of_getElem? e, (Option.some.inj hi).symm⟩
    have RA3 := RA.same s3
    obtain ⟨⟨dx3, kvs3, hp3, hd3, en3⟩, nd3⟩ := id RA3
    have hlk3 := s3 _ _ hlk
    have kl3 := kl.mono fun t xs q => s3 t _ q
    refine ⟨_, rfl, lk, rfl, ⟨_, SqL.of hlk3⟩, L2.comp_filter (isN H2 z) id (SqL.of hlk3) (by rw [kl.length]; exact Nat.le_trans hl (by decide)) (fun i x R' hx k => ?_) (fun i x R' hx _ k => ⟨_, rfl, k⟩) (fun l3 hl3 => ?_)⟩
    · obtain ⟨t', n', g', c', rfl, _, ht'⟩ := kl3.get hx
      unfold isN at k
      rw [hdV_of ht'] at k
      exact ⟨_, rfl, t', _, _, _, rfl, rfl, SqT.of ht', (show atI [V.int n', V.int g', V.int c'] 0 = some _ from rfl), _, rfl, rfl, _, rfl, k⟩
    have kf := kl3.filter (q := z)
    generalize hF : (R.filter fun x => decide (x.1 = z)) = Rf at kf
    have s4 := same_upd (o := .lst ((ts.filter (isN H2 z)).map id)) hl3
    rw [List.map_id] at s4 ⊢
    have kf4 := kf.mono fun t xs q => s4 t _ q
    refine ⟨_, rfl, by show 0 ≤ sizeLine; decide, fun l4 hl4 => ?_⟩
    have s5 := same_upd (o := .lst []) hl4
    have kf5 := kf4.mono fun t xs q => s5 t _ q
    have h35 : Same H _ := s3.trans (s4.trans s5)
    have hl3' : upd (upd H2 l3 (.lst (ts.filter (isN H2 z)))) l4 (.lst []) l3 = some (.lst (ts.filter (isN H2 z))) := by rw [upd_ne (ne_of_none upd_same hl4)]; exact upd_same
    refine ⟨.lst (Rf.map tupD), .lst [], .lst (SqL.of hl3') kf5.isAll, .lst (SqL.of upd_same) .nil, sh_tups _, sh_nil, _, rfl, ?_⟩
    rw [eqDs_nil]
    have RA5 := RA.same h35
    obtain ⟨⟨dx5, kvs5, hp5, hd5, en5⟩, nd5⟩ := id RA5
    refine itD (fun he => ?_) (fun he => ?_)
    · -- nobody of that number
      have hn : z ∉ R.map (·.1) := fun hm => by
        obtain ⟨x, hx, rfl⟩ := List.mem_map.mp hm
        have : x ∈ Rf := by rw [← hF]; exact List.mem_filter.mpr ⟨hx, decide_eq_true rfl⟩
        rw [he] at this; cases this
      refine ⟨_, rfl, _, rfl, p, d, R, z, rfl, RA5, hsm z hz, hn, _, rfl, ?_⟩
      refine iteF ?_
      exact ⟨_, _, rfl, h35⟩
    · obtain ⟨x, Rr, rfl⟩ : ∃ x Rr, Rf = x :: Rr := by
        cases Rf with
        | nil => exact absurd rfl he
        | cons x Rr => exact ⟨x, Rr, rfl⟩
      obtain ⟨n, g, c⟩ := x
      have hm : (n, g, c) ∈ R.filter fun x => decide (x.1 = z) := by rw [hF]; exact List.mem_cons_self
      obtain ⟨hmR, hnz⟩ := List.mem_filter.mp hm
      have hnz : n = z := of_decide_eq_true hnz
      subst hnz
      have hin : n ∈ R.map (·.1) := List.mem_map.mpr ⟨_, hmR, rfl⟩
      obtain ⟨t0, ets, ht0⟩ : ∃ t0, (ts.filter (isN H2 n))[0]? = some (.ref t0) ∧ upd (upd H2 l3 (.lst (ts.filter (isN H2 n)))) l4 (.lst []) t0 = some (.tup [.int n, .int g, .int c]) := by
        generalize ts.filter (isN H2 n) = tf at kf5 ⊢
        cases kf5 with
        | cons hh _ => exact ⟨_, rfl, hh⟩
      refine ⟨_, rfl, p, dx5, _, rfl, hp5, RosAt.no (by decide +kernel), _, rfl, p, d, R, n, rfl, RA5, _, _, rfl, rfl, _, rfl, ?_⟩
      rw [decide_eq_true hin]
      refine iteF ?_
      refine ⟨_, rfl, p, dx5, _, rfl, hp5, RosAt.no (by decide +kernel), _, rfl, p, d, R, n, rfl, RA5, hsm n hz, fun q => absurd hin q, fun g' c' q => ?_⟩
      obtain ⟨rfl, rfl⟩ := nodup_eq nd hmR q
      refine ⟨_, rfl, l3, _, _, _, rfl, rfl, SqL.of hl3', atI_nat (j := 0) ets, t0, _, _, _, rfl, rfl, SqT.of ht0, (show atI [V.int n, V.int g', V.int c'] 1 = some _ from rfl), _, _, rfl, _, rfl, ?_⟩
      rw [decide_eq_true rfl]
      refine iteF ?_
      refine ⟨_, rfl, p, dx5, _, rfl, hp5, RosAt.no (by decide +kernel), _, rfl, p, d, R, n, rfl, RA5, hsm n hz, fun q => absurd hin q, fun g'' c'' q => ?_⟩
      obtain ⟨rfl, rfl⟩ := nodup_eq nd hmR q
      refine ⟨_, rfl, l3, _, _, _, rfl, rfl, SqL.of hl3', atI_nat (j := 0) ets, t0, _, _, _, rfl, rfl, SqT.of ht0, (show atI [V.int n, V.int g'', V.int c''] 2 = some _ from rfl), _, _, rfl, _, rfl, ?_⟩
      rw [decide_eq_true rfl]
      refine iteF ?_
      exact ⟨_, _, rfl, h35⟩
  · subst e
    exact h H2 s3
end
end K06

set_option Elab.async false
set_option linter.all false
set_option maxRecDepth 100000
set_option maxHeartbeats 4000000
namespace K06
open PySem PySem.Spec PyProof.Rows L2 G
local macro_rules | `(tactic| walk_at "rd") => `(tactic| repeat (first | (refine ⟨_, rfl, ?_⟩) | (refine ⟨_, _, rfl, rfl, ?_⟩) | (refine And.intro (show CMul _ _ from Or.inr (And.intro (by decide) (by decide))) ?_) | (refine And.intro (show CMul _ _ from Or.inl (And.intro (by decide) (by decide))) ?_) | (refine And.intro (show CDiv _ _ from (And.intro (by decide) (by decide))) ?_) | (refine And.intro (show CPow _ _ from (And.intro (by decide) (And.intro (by decide) (by decide)))) ?_) | (refine And.intro (show (0 : Int) < _ from (by decide)) ?_)))
local macro_rules | `(tactic| walk_at "if") => `(tactic| dsimp only [gName, List.set])
local macro_rules | `(tactic| walk_at "ar") => `(tactic| (intro _ _ _ _ h; first | (cases h; subst_vars; rfl) | repeat (first | (obtain ⟨h1, _⟩ := h; subst h1; rfl) | (obtain ⟨_, h⟩ := h))))
section
variable {P : Program} {w : World} {K : PySem.W.Frag} {mg : Str → Option Value} {base : Heap} {a : Ad} {f : Addr} {fd : FuncData}
/-! ### numbers -/
theorem poolS_length (c : Int) (m : Nat) : (poolS c m).length = m := by unfold poolS; rw [List.length_map, List.length_range]
theorem poolS_get (c : Int) {m i : Nat} (h : i < m) : (poolS c m)[i]? = some (numS c i) := by
  unfold poolS
  rw [List.getElem?_map, List.getElem?_range h]; rfl
theorem numS_range (c : Int) (j : Nat) : 1 ≤ numS c j ∧ numS c j ≤ 999 := by unfold numS; omega
theorem numS_inj (c : Int) {i j : Nat} (hi : i < 40) (hj : j < 40) (h : numS c i = numS c j) : i = j := by
  unfold numS at h
  have hs : stp c = 1 ∨ stp c = 2 ∨ stp c = 5 ∨ stp c = 10 ∨ stp c = 100 ∨ stp c = 500 ∨ stp c = 998 := by
    unfold stp
    have h0 : 0 ≤ c % 7 := by omega
    have h1 : c % 7 < 7 := by omega
    generalize c % 7 = r at h0 h1
    obtain ⟨k, rfl⟩ : ∃ k : Nat, r = k := ⟨r.toNat, by omega⟩
    rw [Int.toNat_natCast]
    have hk : k < 7 := by omega
    match k, hk with
    | 0, _ => simp
    | 1, _ => simp
    | 2, _ => simp
    | 3, _ => simp
    | 4, _ => simp
    | 5, _ => simp
    | 6, _ => simp
  generalize c / 7 = x at h
  rcases hs with e | e | e | e | e | e | e <;> rw [e] at h <;> omega
theorem pool_small {c : Int} {q : Int} (h : q ∈ poolS c 40) : 1 ≤ q ∧ q ≤ 999 := by
  unfold poolS at h
  obtain ⟨j, _, rfl⟩ := List.mem_map.mp h
  exact numS_range c j
theorem nP_small (c x : Int) : smallI (nP (poolS c 40) x) := by
  refine smallI_le ?_
  unfold nP
  split
  · have h0 : 0 ≤ x / 7 / 18 % 4 := by omega
    have h1 : x / 7 / 18 % 4 < 4 := by omega
    generalize x / 7 / 18 % 4 = r at h0 h1
    obtain ⟨k, rfl⟩ : ∃ k : Nat, r = k := ⟨r.toNat, by omega⟩
    rw [Int.toNat_natCast]
    have hk : k < 4 := by omega
    match k, hk with
    | 0, _ => decide
    | 1, _ => decide
    | 2, _ => decide
    | 3, _ => decide +kernel
  · have hk : (x % 40).toNat < 40 := by omega
    rw [List.getD_eq_getElem?_getD, poolS_get c hk]
    have := numS_range c (x % 40).toNat
    show (numS c (x % 40).toNat).natAbs ≤ _
    have h2 : (numS c (x % 40).toNat).natAbs ≤ 999 := by omega
    exact Nat.le_trans h2 (by decide)
theorem gP_small (x : Int) : smallI (gP x) := by
  refine smallI_le ?_
  have : (gP x).natAbs ≤ 1000 := by
    unfold gP
    split
    · have h0 : 0 ≤ x / 7 / 18 % 2 := by omega
      have h1 : x / 7 / 18 % 2 < 2 := by omega
      generalize x / 7 / 18 % 2 = r at h0 h1
      obtain ⟨k, rfl⟩ : ∃ k : Nat, r = k := ⟨r.toNat, by omega⟩
      rw [Int.toNat_natCast]
      have hk : k < 2 := by omega
      match k, hk with
      | 0, _ => decide
      | 1, _ => decide
    · omega
  exact Nat.le_trans this (by decide)
theorem cP_small (x : Int) : smallI (cP x) := by
  refine smallI_le ?_
  have : (cP x).natAbs ≤ 1000 := by
    unfold cP
    split
    · have h0 : 0 ≤ x / 7 / 18 % 2 := by omega
      have h1 : x / 7 / 18 % 2 < 2 := by omega
      generalize x / 7 / 18 % 2 = r at h0 h1
      obtain ⟨k, rfl⟩ : ∃ k : Nat, r = k := ⟨r.toNat, by omega⟩
      rw [Int.toNat_natCast]
      have hk : k < 2 := by omega
      match k, hk with
      | 0, _ => decide
      | 1, _ => decide
    · omega
  exact Nat.le_trans this (by decide)
/-- the referees that the first roster has at first -/
def fst30 (c : Int) (i : Nat) : RL := (List.range i).map fun j => (numS c j, 1 + (j : Int) % 9, 99 - (j : Int))
theorem fst30_length (c : Int) (i : Nat) : (fst30 c i).length = i := by unfold fst30; rw [List.length_map, List.length_range]
theorem fst30_succ (c : Int) (i : Nat) : fst30 c (i + 1) = fst30 c i ++ [(numS c i, 1 + (i : Int) % 9, 99 - (i : Int))] := by unfold fst30; rw [List.range_succ, List.map_append]; rfl
theorem fst30_new (c : Int) {i : Nat} (hi : i < 40) : numS c i ∉ (fst30 c i).map (·.1) := by
  intro h
  obtain ⟨x, hx, e⟩ := List.mem_map.mp h
  unfold fst30 at hx
  obtain ⟨j, hj, rfl⟩ := List.mem_map.mp hx
  have hj := List.mem_range.mp hj
  exact absurd (numS_inj c (by omega) hi e) (by omega)
theorem fst30_told (c : Int) {i : Nat} (hi : i < 30) : dueD (fst30 c i) (numS c i) (1 + (i : Int) % 9) (99 - (i : Int)) = toldD ∧ addR (fst30 c i) (numS c i) (1 + (i : Int) % 9) (99 - (i : Int)) = fst30 c (i + 1) := by
  have hr := numS_range c i
  have hb : ¬ badI (numS c i) (1 + (i : Int) % 9) (99 - (i : Int)) := by unfold badI; omega
  have hn := fst30_new c (show i < 40 by omega)
  have hl : ¬ 30 ≤ (fst30 c i).length := by rw [fst30_length]; omega
  unfold dueD addR
  rw [if_neg hb, if_neg hn, if_neg hl, if_neg hb, if_neg hn, if_neg hl, fst30_succ]
  exact ⟨rfl, rfl⟩
/-! ### the two rosters and what is kept of them -/
def setB {α : Type} (f : Bool → α) (s : Bool) (x : α) : Bool → α := fun u => if u = s then x else f u
theorem setB_same {α : Type} {f : Bool → α} {s : Bool} {x : α} : setB f s x s = x := by unfold setB; rw [if_pos rfl]
theorem setB_ne {α : Type} {f : Bool → α} {s u : Bool} {x : α} (h : u ≠ s) : setB f s x u = f u := by unfold setB; rw [if_neg h]
structure LawC (H0 : Hp) (lp lr lk : Addr) (p d k : Bool → Addr) : Prop where
  fd : ∀ s, H0 (d s) = none
  fk : ∀ s, H0 (k s) = none
  dd : ∀ s u, s ≠ u → d s ≠ d u
  kk : ∀ s u, s ≠ u → k s ≠ k u
  kl : ∀ s, lp ≠ k s ∧ lr ≠ k s ∧ lk ≠ k s
structure LawI (a : Ad) (H0 : Hp) (lp lr lk : Addr) (pool : List Int) (p d k : Bool → Addr) (R S : Bool → RL) (H : Hp) : Prop where
  base : Same H0 H
  pl : H lp = some (.lst (pool.map V.int))
  ro : H lr = some (.lst [.ref (p false), .ref (p true)])
  kp : H lk = some (.lst [.ref (k false), .ref (k true)])
  rs : ∀ s, RosAt a.cRoster H (p s) (d s) (R s)
  ks : ∀ s, ∃ ts, H (k s) = some (.lst ts) ∧ KeptL H ts (S s)
section
variable {H0 H H' : Hp} {lp lr lk : Addr} {pool : List Int} {p d k : Bool → Addr} {R S : Bool → RL}
theorem LawI.same (I : LawI a H0 lp lr lk pool p d k R S H) (e : Same H H') : LawI a H0 lp lr lk pool p d k R S H' :=
  ⟨I.base.trans e, e _ _ I.pl, e _ _ I.ro, e _ _ I.kp, fun s => (I.rs s).same e, fun s => let ⟨ts, h1, h2⟩ := I.ks s; ⟨ts, e _ _ h1, h2.mono fun t xs q => e _ _ q⟩⟩
theorem LawI.added (C : LawC H0 lp lr lk p d k) (I : LawI a H0 lp lr lk pool p d k R S H) {s : Bool} {R' : RL} (r : RosAt a.cRoster H' (p s) (d s) R') (e : ∀ b o, H b = some o → b ≠ d s → H' b = some o) : LawI a H0 lp lr lk pool p d k (setB R s R') S H' := by
  obtain ⟨⟨_, _, _, hds, _⟩, _⟩ := I.rs s
  have ne : ∀ {b : Addr} {o : HO}, H b = some o → (∀ kvs, o ≠ .dK kvs) → H' b = some o := fun {b o} q n => e b o q fun z => by
    rw [z, hds] at q; cases q; exact n _ rfl
  refine ⟨fun b o q => e b o (I.base b o q) fun z => ?_, ne I.pl (fun _ z => nomatch z), ne I.ro (fun _ z => nomatch z), ne I.kp (fun _ z => nomatch z), fun u => ?_, fun u => ?_⟩
  · rw [z, C.fd s] at q; cases q
  · by_cases hu : u = s
    · subst hu; rw [setB_same]; exact r
    · rw [setB_ne hu]
      obtain ⟨⟨dx, kvs, h1, h2, h3⟩, nd⟩ := I.rs u
      exact ⟨⟨dx, kvs, ne h1 (fun _ z => nomatch z), e _ _ h2 (C.dd u s hu), h3.mono fun t xs q => ne q (fun _ z => nomatch z)⟩, nd⟩
  · obtain ⟨ts, h1, h2⟩ := I.ks u
    exact ⟨ts, ne h1 (fun _ z => nomatch z), h2.mono fun t xs q => ne q (fun _ z => nomatch z)⟩
theorem LawI.append (C : LawC H0 lp lr lk p d k) (I : LawI a H0 lp lr lk pool p d k R S H) {s : Bool} {ts : List V} {t : Addr} {n g c : Int} (hts : H (k s) = some (.lst ts)) (kl : KeptL H ts (S s)) (ht : H t = some (.tup [.int n, .int g, .int c])) :
    LawI a H0 lp lr lk pool p d k R (setB S s (S s ++ [(n, g, c)])) (upd H (k s) (.lst (ts ++ [.ref t]))) := by
  have ne : ∀ {b : Addr} {o : HO}, H b = some o → (∀ xs, o ≠ .lst xs) → upd H (k s) (.lst (ts ++ [.ref t])) b = some o := fun {b o} q n => by
    rw [upd_ne (fun z => by rw [z, hts] at q; cases q; exact n _ rfl)]; exact q
  have ntp : ∀ b xs, H b = some (.tup xs) → upd H (k s) (.lst (ts ++ [.ref t])) b = some (.tup xs) := fun b xs q => ne q (fun _ z => nomatch z)
  refine ⟨fun b o q => ?_, by rw [upd_ne (C.kl s).1]; exact I.pl, by rw [upd_ne (C.kl s).2.1]; exact I.ro, by rw [upd_ne (C.kl s).2.2]; exact I.kp, fun u => ?_, fun u => ?_⟩
  · rw [upd_ne (ne_of_none q (C.fk s))]; exact I.base b o q
  · obtain ⟨⟨dx, kvs, h1, h2, h3⟩, nd⟩ := I.rs u
    exact ⟨⟨dx, kvs, ne h1 (fun _ z => nomatch z), ne h2 (fun _ z => nomatch z), h3.mono ntp⟩, nd⟩
  · by_cases hu : u = s
    · subst hu
      rw [setB_same]
      exact ⟨_, upd_same, (kl.mono ntp).snoc (ntp _ _ ht)⟩
    · obtain ⟨ts', h1, h2⟩ := I.ks u
      rw [setB_ne hu]
      exact ⟨ts', by rw [upd_ne (C.kk u s hu)]; exact h1, h2.mono ntp⟩
end
end
end K06

set_option Elab.async false
set_option linter.all false
set_option maxRecDepth 100000
set_option maxHeartbeats 4000000
namespace K06
open PySem PySem.Spec PyProof.Rows L2 G
local macro_rules | `(tactic| walk_at "rd") => `(tactic| repeat (first | (refine ⟨_, rfl, ?_⟩) | (refine ⟨_, _, rfl, rfl, ?_⟩) | (refine And.intro (show CMul _ _ from Or.inr (And.intro (by decide) (by decide))) ?_) | (refine And.intro (show CMul _ _ from Or.inl (And.intro (by decide) (by decide))) ?_) | (refine And.intro (show CDiv _ _ from (And.intro (by decide) (by decide))) ?_) | (refine And.intro (show CPow _ _ from (And.intro (by decide) (And.intro (by decide) (by decide)))) ?_) | (refine And.intro (show (0 : Int) < _ from (by decide)) ?_)))
local macro_rules | `(tactic| walk_at "if") => `(tactic| dsimp only [gName, List.set])
local macro_rules | `(tactic| walk_at "ar") => `(tactic| (intro _ _ _ _ h; first | (cases h; subst_vars; rfl) | repeat (first | (obtain ⟨h1, _⟩ := h; subst h1; rfl) | (obtain ⟨_, h⟩ := h))))
section
variable {P : Program} {w : World} {K : PySem.W.Frag} {mg : Str → Option Value} {base : Heap} {a : Ad} {f : Addr} {fd : FuncData}
/-- two ways that meet -/
theorem seq_if_join {c : TT} {t e u : TS} {D : Ends} {σ : L2.St} {H : Hp} {b : Bool} (J : L2.St → Hp → Prop) (hc : ∀ Q : Bool → Hp → Prop, Q b H → c σ H Q) (h1 : b = true → ∀ N : L2.St → Hp → Prop, (∀ σ' H', J σ' H' → N σ' H') → t { D with nx := N } σ H)
    (h2 : b = false → ∀ N : L2.St → Hp → Prop, (∀ σ' H', J σ' H' → N σ' H') → e { D with nx := N } σ H) (h3 : ∀ σ' H', J σ' H' → u D σ' H') : tSeq (tIfS c t e) u D σ H := by
  refine hc _ ?_
  cases b with
  | true => rw [if_pos rfl]; exact h1 rfl _ h3
  | false => rw [if_neg (by decide)]; exact h2 rfl _ h3
theorem next_of {D : Ends} {σ : L2.St} {H : Hp} (h : D.nx σ H) : tNext D σ H := h
def noDict : HO → Prop
  | .dK _ => False
  | _ => True
mutual
theorem Is.keep {K : PySem.W.Frag} {H H' : Hp} (e : ∀ b o, H b = some o → noDict o → H' b = some o) : ∀ {d : Dt} {x : V}, Is K H x d → Is K H' x d
  | _, _, .non => .non
  | _, _, .bl b => .bl b
  | _, _, .int i => .int i
  | _, _, .str i => .str i
  | _, _, .lst h hs => .lst (by
      rcases h with (h | ⟨o, h⟩) | h
      · exact .inl (.inl (e _ _ h trivial))
      · exact .inl (.inr ⟨o, e _ _ h trivial⟩)
      · exact .inr h) (IsAll.keep e hs)
  | _, _, .tup h hs => .tup (by
      rcases h with (h | ⟨o, h⟩) | h
      · exact .inl (.inl (e _ _ h trivial))
      · exact .inl (.inr ⟨o, e _ _ h trivial⟩)
      · exact .inr h) (IsAll.keep e hs)
theorem IsAll.keep {K : PySem.W.Frag} {H H' : Hp} (e : ∀ b o, H b = some o → noDict o → H' b = some o) : ∀ {ds : List Dt} {xs : List V}, IsAll K H xs ds → IsAll K H' xs ds
  | _, _, .nil => .nil
  | _, _, .cons h t => .cons (Is.keep e h) (IsAll.keep e t)
end
theorem at2k (k : Bool → Addr) (s : Bool) : atI [V.ref (k false), V.ref (k true)] (if s then 1 else 0) = some (.ref (k s)) := by cases s <;> rfl
abbrev s_law : Stmt := top 27
theorem sc_law : FnScope ["_law_script", "_law_pool", "_law_rosters", "_law_kept", "_law_k", "_law_cell", "_law_side", "_law_person_here", "_law_due_here", "_law_found", "_law_sizes", "_law_asked"] ["_law_script"] (defScope s_law) := ⟨rfl, rfl, rfl, by decide +kernel, rfl, by decide +kernel, by decide +kernel⟩
theorem sh_ref (x y z : Bool) : shD (refD x y z) := by
  cases x <;> cases y <;> cases z <;> (unfold shD; decide +kernel)
theorem sh_told : shD toldD := by unfold shD; decide +kernel
theorem mk_roster {C : Addr} {H : Hp} {p x d : Addr} (np : H p = none) (nx : H x = none) (ne : x ≠ p) (hd : upd (upd H x (.own p)) p (.ins C x []) d = none) :
    Same H (upd (upd (upd (upd H x (.own p)) p (.ins C x [])) d (.dK [])) p (.ins C x [("entries", .ref d)])) ∧
    RosAt C (upd (upd (upd (upd H x (.own p)) p (.ins C x [])) d (.dK [])) p (.ins C x [("entries", .ref d)])) p d [] ∧ H d = none := by
  have dp : d ≠ p := fun z => by rw [z, upd_same] at hd; cases hd
  have dx : d ≠ x := fun z => by rw [z, upd_ne ne, upd_same] at hd; cases hd
  have hd0 : H d = none := by rw [upd_ne dp, upd_ne dx] at hd; exact hd
  refine ⟨fun b o e => ?_, ⟨⟨x, [], upd_same, by rw [upd_ne dp, upd_same], .nil⟩, List.nodup_nil⟩, hd0⟩
  rw [upd_ne (ne_of_none e np), upd_ne (ne_of_none e hd0), upd_ne (ne_of_none e np), upd_ne (ne_of_none e nx)]
  exact e
theorem sh_due (R : RL) (n g c : Int) : shD (dueD R n g c) := by
  unfold dueD
  split
  · exact sh_ref _ _ _
  · split
    · exact sh_ref _ _ _
    · split
      · exact sh_ref _ _ _
      · exact sh_told
theorem addR_cases {R : RL} {n g c : Int} (hl : R.length ≤ 30) : (dueD R n g c = toldD ∧ addR R n g c = R ++ [(n, g, c)] ∧ R.length < 30) ∨ (addR R n g c = R ∧ ∃ x y z, dueD R n g c = refD x y z) := by
  unfold dueD addR
  split
  · exact .inr ⟨rfl, _, _, _, rfl⟩
  · split
    · exact .inr ⟨rfl, _, _, _, rfl⟩
    · split
      · exact .inr ⟨rfl, _, _, _, rfl⟩
      · exact .inl ⟨rfl, rfl, by omega⟩
set_option maxHeartbeats 16000000 in
theorem ok_law (F : Fun K "law" "law" s_law f fd) (T : Tx K mg a) (D_law_numbers : DefOk P w K mg base "_law_numbers" 1 ["_law_cell", "_law_many"] spNumbers2) (D_law_at : DefOk P w K mg base "_law_at" 1 ["_law_script", "_law_k"] (spAt K)) (N_Roster : MakeOk P w K mg base "Roster" a.cRoster 1 ["self"] (spInit a)) (D_law_added : DefOk P w K mg base "_law_added" 4 ["_law_roster", "_law_person_here"] (spAdded K a)) (D_law_mix : DefOk P w K mg base "_law_mix" 1 ["_law_cell", "_law_k"] spMix) (D_law_person : DefOk P w K mg base "_law_person" 1 ["_law_cell", "_law_pool"] (spPerson K)) (D_law_due : DefOk P w K mg base "_law_due" 1 ["_law_kept", "_law_person_here"] (spDue K)) (M_Roster_numbers : MethOk P w K mg base a.cRoster "numbers" 1 ["self"] (spNumbers a)) (D_law_list_is : DefOk P w K mg base "_law_list_is" 3 ["_law_found", "_law_due_here"] (spListIs K)) (D_law_keeps : DefOk P w K mg base "_law_keeps" 5 ["_law_roster", "_law_kept", "_law_asked"] (spKeeps K a)) : FnOk P w K mg base (CX1 P w) 6 f fd ["_law_script"] (spLaw K) := by
  refine F.okX sc_law (fun vs H Q E h => ?_) (fun cdv A outer s H vs Q E hr h => ?_)
  · obtain ⟨b, ns, rfl, _⟩ := h
    rfl
  obtain ⟨b, ns, rfl, hS, hns, h⟩ := h
  have hu := hu_of hr
  refine ⟨_, (pss_cons (ps_set (i := 1) sc_law.nd rfl (by first | exact Or.inl rfl | exact Or.inr rfl) (pe_fn D_law_numbers (hr.mono (by decide)) passes_fn rfl (pa_cons (pe_fn D_law_at (hr.mono (by decide)) passes_fn rfl (pa_cons (pv 0) (pa_cons pe_int pa_nil))) (pa_cons pe_int pa_nil))))
  (pss_cons (ps_set (i := 2) sc_law.nd rfl (by first | exact Or.inl rfl | exact Or.inr rfl) (pe_lst (pa_cons (pe_new0 N_Roster (hr.mono (by decide)) passes_fn rfl) (pa_cons (pe_new0 N_Roster (hr.mono (by decide)) passes_fn rfl) pa_nil))))
  (pss_cons (ps_set (i := 3) sc_law.nd rfl (by first | exact Or.inl rfl | exact Or.inr rfl) (pe_lst (pa_cons (pe_lst pa_nil) (pa_cons (pe_lst pa_nil) pa_nil))))
  (pss_cons (ps_for PassesOwn.leaving rfl (pi_range1 rfl T.z_range (pa_cons (pe_ix (ix_listK (K := K) rfl) (pe_lst (pa_cons pe_int (pa_cons pe_int (pa_cons pe_int pa_nil)))) (pe_op op_mod (pe_fn D_law_at (hr.mono (by decide)) passes_fn rfl (pa_cons (pv 0) (pa_cons pe_int pa_nil))) pe_int) (fun _ _ => rfl)) pa_nil)) (pg_name (i := 4) sc_law.nd rfl (by first | exact Or.inl rfl | exact Or.inr rfl))
    (pss_cons (ps_append (pe_ix (ix_listK (K := K) rfl) (pv 3) pe_int (fun _ _ => rfl)) (pe_tup (pa_cons (pe_ix (ix_listK (K := K) rfl) (pv 1) (pv 4) (fun _ _ => rfl)) (pa_cons (pe_op op_add pe_int (pe_op op_mod (pv 4) pe_int)) (pa_cons (pe_op op_sub pe_int (pv 4)) pa_nil)))))
    (pss_one (ps_if (pt_cmpR (op_neDK (K := K) rfl hr.units) (pe_fn D_law_added (hr.mono (by decide)) passes_fn rfl (pa_cons (pe_ix (ix_listK (K := K) rfl) (pv 2) pe_int (fun _ _ => rfl)) (pa_cons (pe_ix (ix_listK (K := K) rfl) (pe_ix (ix_listK (K := K) rfl) (pv 3) pe_int (fun _ _ => rfl)) (pv 4) (fun _ _ => rfl)) pa_nil))) (pe_tup (pa_cons pe_str (pa_cons pe_non pa_nil))) (nomark _))
      (pss_one (ps_ret pe_bl))
      pss_nil))))
  (pss_cons (ps_for PassesOwn.leaving rfl (pi_range2 rfl T.z_range (pa_cons pe_int (pa_cons (pe_callB (call_len_seqK (K := K) rfl) (by rfl) T.z_len PySem.boot_len (pa_cons (pv 0) pa_nil)) pa_nil))) (pg_name (i := 4) sc_law.nd rfl (by first | exact Or.inl rfl | exact Or.inr rfl))
    (pss_cons (ps_set (i := 5) sc_law.nd rfl (by first | exact Or.inl rfl | exact Or.inr rfl) (pe_ix (ix_listK (K := K) rfl) (pe_lst (pa_cons (pe_ix (ix_listK (K := K) rfl) (pv 0) (pv 4) (fun _ _ => rfl)) (pa_cons (pe_fn D_law_mix (hr.mono (by decide)) passes_fn rfl (pa_cons (pe_ix (ix_listK (K := K) rfl) (pv 0) (pv 4) (fun _ _ => rfl)) (pa_cons (pv 4) pa_nil))) pa_nil))) (pe_op op_mod (pe_fn D_law_at (hr.mono (by decide)) passes_fn rfl (pa_cons (pv 0) (pa_cons pe_int pa_nil))) pe_int) (fun _ _ => rfl)))
    (pss_cons (ps_set (i := 6) sc_law.nd rfl (by first | exact Or.inl rfl | exact Or.inr rfl) (pe_op op_mod (pe_op op_mod (pv 5) pe_int) pe_int))
    (pss_cons (ps_set (i := 7) sc_law.nd rfl (by first | exact Or.inl rfl | exact Or.inr rfl) (pe_fn D_law_person (hr.mono (by decide)) passes_fn rfl (pa_cons (pe_op op_fdiv (pv 5) pe_int) (pa_cons (pv 1) pa_nil))))
    (pss_cons (ps_set (i := 8) sc_law.nd rfl (by first | exact Or.inl rfl | exact Or.inr rfl) (pe_fn D_law_due (hr.mono (by decide)) passes_fn rfl (pa_cons (pe_ix (ix_listK (K := K) rfl) (pv 3) (pv 6) (fun _ _ => rfl)) (pa_cons (pv 7) pa_nil))))
    (pss_cons (ps_if (pt_cmpR (op_neDK (K := K) rfl hr.units) (pe_fn D_law_added (hr.mono (by decide)) passes_fn rfl (pa_cons (pe_ix (ix_listK (K := K) rfl) (pv 2) (pv 6) (fun _ _ => rfl)) (pa_cons (pv 7) pa_nil))) (pv 8) (nomark _))
      (pss_one (ps_ret pe_bl))
      pss_nil)
    (pss_cons (ps_if (pt_cmpR op_eq (pe_ix (ix_tupK (K := K) rfl) (pv 8) pe_int (fun _ _ => rfl)) pe_str (nomark _))
      (pss_one (ps_append (pe_ix (ix_listK (K := K) rfl) (pv 3) (pv 6) (fun _ _ => rfl)) (pv 7)))
      pss_nil)
    (pss_cons (ps_set (i := 9) sc_law.nd rfl (by first | exact Or.inl rfl | exact Or.inr rfl) (pe_mt0 (pe_ix (ix_listK (K := K) rfl) (pv 2) (pv 6) (fun _ _ => rfl)) T.c_Roster M_Roster_numbers (hr.mono (by decide)) passes_fn))
    (pss_cons (ps_if (pt_not (pt_val (pe_fn D_law_list_is (hr.mono (by decide)) passes_fn rfl (pa_cons (pv 9) (pa_cons (pe_comp rfl (CompT.mk (ys := []) (js := []) rfl rfl (by decide +kernel) (by decide +kernel) rfl (by decide +kernel) rfl (by repeat' (first | exact True.intro | apply And.intro | rfl)) (by repeat' (first | exact True.intro | apply And.intro | rfl)) (by decide +kernel)) (pi_listK (K := K) rfl (pe_ix (ix_listK (K := K) rfl) (pv 3) (pv 6) (fun _ _ => rfl))) (fun _ _ _ _ _ => pts_nil) (fun _ _ _ _ _ => (pe_ix (ix_tupK (K := K) rfl) (pv 0) pe_int (fun _ _ => rfl)))) pa_nil)))))
      (pss_one (ps_ret pe_bl))
      pss_nil)
    (pss_one (ps_append (pv 9) pe_int)))))))))))
  (pss_cons (ps_set (i := 10) sc_law.nd rfl (by first | exact Or.inl rfl | exact Or.inr rfl) (pe_lst (pa_cons (pe_gint rfl T.g_MOST_NUMBER) (pa_cons (pe_gint rfl T.g_MOST_GRADE) (pa_cons (pe_gint rfl T.g_MOST_CLUB) (pa_cons (pe_gint rfl T.g_MOST_REFEREES) pa_nil))))))
  (pss_cons (ps_set (i := 11) sc_law.nd rfl (by first | exact Or.inl rfl | exact Or.inr rfl) (pe_op op_cat (pv 1) (pe_lst (pa_cons pe_int (pa_cons pe_int (pa_cons (pe_un un_neg pe_int) (pa_cons (pe_op op_pow pe_int pe_int) pa_nil)))))))
  (pss_cons (ps_if (PW.pt (pw_or (pt_not (pt_val (pe_fn D_law_list_is (hr.mono (by decide)) passes_fn rfl (pa_cons (pv 10) (pa_cons (pe_lst (pa_cons pe_int (pa_cons pe_int (pa_cons pe_int (pa_cons pe_int pa_nil))))) pa_nil))))) (pw_or1 (pt_not (pt_val (pe_fn D_law_keeps (hr.mono (by decide)) passes_fn rfl (pa_cons (pe_ix (ix_listK (K := K) rfl) (pv 2) pe_int (fun _ _ => rfl)) (pa_cons (pe_ix (ix_listK (K := K) rfl) (pv 3) pe_int (fun _ _ => rfl)) (pa_cons (pv 11) pa_nil)))))))))
    (pss_one (ps_ret pe_bl))
    pss_nil)
  (pss_one (ps_ret (pe_fn D_law_keeps (hr.mono (by decide)) passes_fn rfl (pa_cons (pe_ix (ix_listK (K := K) rfl) (pv 2) pe_int (fun _ _ => rfl)) (pa_cons (pe_ix (ix_listK (K := K) rfl) (pv 3) pe_int (fun _ _ => rfl)) (pa_cons (pv 11) pa_nil)))))))))))))), ?_⟩
  -- pool
  refine ⟨_, rfl, b, ns, 0, rfl, hS, _, 40, rfl, by decide, fun lp H1 hlp s1 fr1 => ?_⟩
  generalize hc0 : atS ns 0 = c0 at hlp
  -- two rosters
  intro p0 x0 np0 nx0 ne0
  refine ⟨p0, x0, rfl, upd_same, fun d0 hd0 => ⟨rfl, ?_⟩⟩
  obtain ⟨s2, ra0, fd0⟩ := mk_roster np0 nx0 ne0 hd0
  generalize hH2 : upd (upd (upd (upd H1 x0 (.own p0)) p0 (.ins a.cRoster x0 [])) d0 (.dK [])) p0 (.ins a.cRoster x0 [("entries", .ref d0)]) = H2 at s2 ra0 ⊢
  intro p1 x1 np1 nx1 ne1
  refine ⟨p1, x1, rfl, upd_same, fun d1 hd1 => ⟨rfl, ?_⟩⟩
  obtain ⟨s3, ra1, fd1⟩ := mk_roster np1 nx1 ne1 hd1
  generalize hH3 : upd (upd (upd (upd H2 x1 (.own p1)) p1 (.ins a.cRoster x1 [])) d1 (.dK [])) p1 (.ins a.cRoster x1 [("entries", .ref d1)]) = H3 at s3 ra1 ⊢
  refine ⟨sz2, fun lr hlr => ?_⟩
  have s4 := same_upd (o := .lst [.ref p0, .ref p1]) hlr
  -- two lists
  refine ⟨by show 0 ≤ sizeLine; decide, fun k0 hk0 => ⟨by show 0 ≤ sizeLine; decide, fun k1 hk1 => ⟨sz2, fun lk hlk => ?_⟩⟩⟩
  have s5 := same_upd (o := .lst []) hk0
  have s6 := same_upd (o := .lst []) hk1
  have s7 := same_upd (o := .lst [.ref k0, .ref k1]) hlk
  generalize hH7 : upd (upd (upd (upd H3 lr (.lst [.ref p0, .ref p1])) k0 (.lst [])) k1 (.lst [])) lk (.lst [.ref k0, .ref k1]) = H7 at s7 ⊢
  have C : LawC H lp lr lk (fun s => if s then p1 else p0) (fun s => if s then d1 else d0) (fun s => if s then k1 else k0) := by
    have nd : d0 ≠ d1 := by
      obtain ⟨⟨_, _, _, q, _⟩, _⟩ := ra0
      exact ne_of_none q fd1
    have nk : k0 ≠ k1 := ne_of_none upd_same hk1
    have e1 : lp ≠ k0 := ne_of_none (s4 _ _ (s3 _ _ (s2 _ _ hlp))) hk0
    have e2 : lp ≠ k1 := ne_of_none (s5 _ _ (s4 _ _ (s3 _ _ (s2 _ _ hlp)))) hk1
    have e3 : lr ≠ k0 := ne_of_none upd_same hk0
    have e4 : lr ≠ k1 := ne_of_none (s5 _ _ upd_same) hk1
    have e5 : k0 ≠ lk := ne_of_none (s6 _ _ upd_same) hlk
    have e6 : k1 ≠ lk := ne_of_none upd_same hlk
    have f0 : H d0 = none := s1.free fd0
    have f1 : H d1 = none := s1.free (s2.free fd1)
    have g0 : H k0 = none := s1.free (s2.free (s3.free (s4.free hk0)))
    have g1 : H k1 = none := s1.free (s2.free (s3.free (s4.free (s5.free hk1))))
    refine ⟨fun s => ?_, fun s => ?_, fun s u hsu => ?_, fun s u hsu => ?_, fun s => ?_⟩
    · cases s; exact f0; exact f1
    · cases s; exact g0; exact g1
    · cases s <;> cases u
      · exact absurd rfl hsu
      · exact nd
      · exact Ne.symm nd
      · exact absurd rfl hsu
    · cases s <;> cases u
      · exact absurd rfl hsu
      · exact nk
      · exact Ne.symm nk
      · exact absurd rfl hsu
    · cases s
      · exact ⟨e1, e3, Ne.symm e5⟩
      · exact ⟨e2, e4, Ne.symm e6⟩
  have s37 : Same H3 H7 := s4.trans (s5.trans (s6.trans s7))
  have I0 : LawI a H lp lr lk (poolS c0 40) (fun s => if s then p1 else p0) (fun s => if s then d1 else d0) (fun s => if s then k1 else k0) (fun _ => []) (fun _ => []) H7 := by
    refine ⟨s1.trans (s2.trans (s3.trans s37)), s37 _ _ (s3 _ _ (s2 _ _ hlp)), s7 _ _ (s6 _ _ (s5 _ _ upd_same)), by rw [← hH7]; exact upd_same, fun s => ?_, fun s => ?_⟩
    · cases s
      · exact (ra0.same s3).same s37
      · exact ra1.same s37
    · cases s
      · exact ⟨[], s7 _ _ (s6 _ _ upd_same), .nil⟩
      · exact ⟨[], s7 _ _ upd_same, .nil⟩
  generalize hp : (fun s : Bool => if s then p1 else p0) = p at C I0
  generalize hd : (fun s : Bool => if s then d1 else d0) = d at C I0
  generalize hk : (fun s : Bool => if s then k1 else k0) = k at C I0
  have S0 : ∀ {R S H'}, LawI a H lp lr lk (poolS c0 40) p d k R S H' → SqL K H' b (ns.map V.int) := fun I => I.base.seq hS
  -- for k in range([0, 29, 30][at(script, 1) % 3])
  refine ⟨by show 3 ≤ sizeLine; decide, fun l1 hl1 => ?_⟩
  have I1 := I0.same (same_upd (o := .lst [.int 0, .int 29, .int 30]) hl1)
  refine ⟨_, rfl, b, ns, 1, rfl, S0 I1, _, _, rfl, rfl, (show (0 : Int) < 3 by decide), l1, _, _, _, rfl, rfl, SqL.of upd_same, atI_ints (xs := [0, 29, 30]) (by omega) (by show _ < 3; omega), _, rfl, ?_⟩
  obtain ⟨m0, hm0, hm30⟩ : ∃ m0 : Nat, ([0, 29, 30] : List Int).getD (atS ns 1 % 3).toNat 0 = m0 ∧ m0 ≤ 30 := by
    have h0 : 0 ≤ atS ns 1 % 3 := by omega
    have h1 : atS ns 1 % 3 < 3 := by omega
    generalize atS ns 1 % 3 = r at h0 h1
    obtain ⟨j, rfl⟩ : ∃ j : Nat, r = j := ⟨r.toNat, by omega⟩
    rw [Int.toNat_natCast]
    have hj : j < 3 := by omega
    match j, hj with
    | 0, _ => exact ⟨0, rfl, by decide⟩
    | 1, _ => exact ⟨29, rfl, by decide⟩
    | 2, _ => exact ⟨30, rfl, by decide⟩
  rw [hm0]
  refine ⟨by omega, by omega, for_range (fun i σ H' => (∃ v4, σ = [some (.ref b), some (.ref lp), some (.ref lr), some (.ref lk), v4, none, none, none, none, none, none, none]) ∧ LawI a H lp lr lk (poolS c0 40) p d k (setB (fun _ => []) false (fst30 c0 i)) (setB (fun _ => []) false (fst30 c0 i)) H')
    ⟨⟨none, rfl⟩, ?_⟩ (fun i σ H' hi ⟨⟨v4, hσ⟩, I⟩ => ?_) (fun σ H' ⟨⟨v4, hσ⟩, I⟩ => ?_)⟩
  · have e : setB (fun _ => ([] : RL)) false (fst30 c0 0) = fun _ => [] := by funext u; unfold setB; split <;> rfl
    rw [e]; exact I1
  · subst hσ
    rw [Int.toNat_natCast] at hi
    have hi30 : i < 30 := by omega
    rw [Int.zero_add]
    obtain ⟨ts, hts, kl⟩ := I.ks false
    rw [setB_same] at kl
    have hpi : ((poolS c0 40).map V.int)[i]? = some (.int (numS c0 i)) := by rw [List.getElem?_map, poolS_get c0 (by omega)]; rfl
    refine ⟨_, rfl, lk, _, _, _, rfl, rfl, SqL.of I.kp, (show atI [V.ref (k false), V.ref (k true)] 0 = some _ from rfl), k false, ts, rfl, hts, ?_⟩
    refine ⟨_, rfl, _, rfl, lp, _, _, _, rfl, rfl, SqL.of I.pl, atI_nat hpi, ?_⟩
    walk_at "rd"
    refine ⟨sz3, fun t ht => ?_⟩
    have It := I.same (same_upd (o := .tup [.int (numS c0 i), .int (1 + (i : Int) % 9), .int (99 - (i : Int))]) ht)
    have hts' := same_upd (o := .tup [.int (numS c0 i), .int (1 + (i : Int) % 9), .int (99 - (i : Int))]) ht _ _ hts
    have kl' := kl.mono fun t' xs q => same_upd (o := .tup [.int (numS c0 i), .int (1 + (i : Int) % 9), .int (99 - (i : Int))]) ht t' _ q
    have lts : ts.length = i := by rw [kl.length, fst30_length]
    refine ⟨ts, hts', (by rw [lts]; exact small1000 (by omega)), ?_⟩
    have Ia := It.append C hts' (by rw [setB_same]; exact kl') upd_same
    rw [setB_same] at Ia
    -- if added(rosters[0], kept[0][k]) != ("told", None)
    have hks : upd (upd H' t (.tup [.int (numS c0 i), .int (1 + (i : Int) % 9), .int (99 - (i : Int))])) (k false) (.lst (ts ++ [.ref t])) t = some (.tup [.int (numS c0 i), .int (1 + (i : Int) % 9), .int (99 - (i : Int))]) := by
      rw [upd_ne (ne_of_none hts ht).symm]; exact upd_same
    have RA := Ia.rs false
    rw [setB_same] at RA
    obtain ⟨et, ea⟩ := fst30_told c0 hi30
    refine ⟨_, rfl, lr, _, _, _, rfl, rfl, SqL.of Ia.ro, (show atI [V.ref (p false), V.ref (p true)] 0 = some _ from rfl), _, rfl, lk, _, _, _, rfl, rfl, SqL.of Ia.kp, (show atI [V.ref (k false), V.ref (k true)] 0 = some _ from rfl), _, rfl, k false, _, _, _, rfl, rfl, SqL.of upd_same,
      atI_nat (show (ts ++ [V.ref t])[i]? = some (.ref t) by rw [← lts]; simp), ?_⟩
    have hr := numS_range c0 i
    refine ⟨p false, d false, fst30 c0 i, t, _, _, _, rfl, RA, hks, smallI_le (Nat.le_trans (show (numS c0 i).natAbs ≤ 999 by omega) (by decide)), smallI_le (Nat.le_trans (show (1 + (i : Int) % 9).natAbs ≤ 999 by omega) (by decide)), smallI_le (Nat.le_trans (show (99 - (i : Int)).natAbs ≤ 999 by omega) (by decide)), by rw [fst30_length]; omega, fun v H2 hv RA2 kp2 => ?_⟩
    rw [et] at hv
    rw [ea] at RA2
    have Ib := Ia.added C RA2 kp2
    refine ⟨sz2, fun tt htt => ?_⟩
    have Ic := Ib.same (same_upd (o := .tup [.str "told", .non]) htt)
    refine ⟨toldD, toldD, hv.same (same_upd htt), .tup (SqT.of upd_same) (.cons (.str _) (.cons .non .nil)), sh_told, sh_told, _, rfl, ?_⟩
    rw [if_pos rfl, eqD_refl]
    refine iteF ?_
    refine ⟨⟨_, rfl⟩, ?_⟩
    have e1 : setB (setB (fun _ => ([] : RL)) false (fst30 c0 i)) false (fst30 c0 (i + 1)) = setB (fun _ => []) false (fst30 c0 (i + 1)) := by funext u; cases u <;> rfl
    rw [← fst30_succ, e1] at Ic
    exact Ic
  subst hσ
  rw [Int.toNat_natCast] at I
  -- for k in range(3, len(script))
  refine ⟨_, rfl, b, _, rfl, .inl (S0 I), _, _, rfl, ⟨by decide, by decide, by omega, by rw [List.length_map]; omega⟩, for_range (fun i σ H' => (∃ v4 v5 v6 v7 v8 v9, σ = [some (.ref b), some (.ref lp), some (.ref lr), some (.ref lk), v4, v5, v6, v7, v8, v9, none, none]) ∧ ∃ R : Bool → RL, (∀ s, (R s).length ≤ 30) ∧ LawI a H lp lr lk (poolS c0 40) p d k R R H')
    ⟨⟨_, _, _, _, _, _, rfl⟩, _, (fun s => ?_), I⟩ (fun i σ H' hi ⟨⟨v4, v5, v6, v7, v8, v9, hσ⟩, R, hR, I⟩ => ?_) (fun σ H' ⟨⟨v4, v5, v6, v7, v8, v9, hσ⟩, R, hR, I⟩ => ?_)⟩
  · cases s
    · rw [setB_same, fst30_length]; exact hm30
    · exact Nat.zero_le _
  · subst hσ
    rw [List.length_map] at hi
    have hk3 : 3 + i < ns.length := by omega
    have hsc : (ns.map V.int)[3 + i]? = some (.int ns[3 + i]) := by rw [List.getElem?_map, List.getElem?_eq_getElem hk3]; rfl
    rw [show (3 : Int) + (i : Int) = ((3 + i : Nat) : Int) by omega]
    refine ⟨_, rfl, _, rfl, b, _, _, _, rfl, rfl, S0 I, atI_nat hsc, _, rfl, _, rfl, b, _, _, _, rfl, rfl, S0 I, atI_nat hsc, _, rfl, _, _, rfl, sz2, fun l1 hl1 => ?_⟩
    have I1 := I.same (same_upd (o := .lst [.int ns[3 + i], .int (mixS ns[3 + i] ((3 + i : Nat) : Int))]) hl1)
    refine ⟨_, rfl, b, ns, 2, rfl, S0 I1, _, _, rfl, rfl, (show (0 : Int) < 2 by decide), l1, _, _, _, rfl, rfl, SqL.of upd_same, atI_ints (xs := [ns[3 + i], mixS ns[3 + i] ((3 + i : Nat) : Int)]) (by omega) (by show _ < 2; omega), ?_⟩
    generalize ([ns[3 + i], mixS ns[3 + i] ((3 + i : Nat) : Int)] : List Int).getD (atS ns 2 % 2).toNat 0 = cell
    generalize upd H' l1 (.lst [.int ns[3 + i], .int (mixS ns[3 + i] ((3 + i : Nat) : Int))]) = Ha at I1
    walk_at "rd"
    obtain ⟨sd, hsd⟩ : ∃ sd : Bool, cell % 3 % 2 = if sd then 1 else 0 := by
      by_cases hs : cell % 3 % 2 = 1
      · exact ⟨true, hs⟩
      · exact ⟨false, by show cell % 3 % 2 = 0; omega⟩
    dsimp only
    rw [hsd]
    refine ⟨_, lp, poolS c0 40, rfl, SqL.of I1.pl, poolS_length _ _, fun t Hb ht sb frt => ?_⟩
    have Ib := I1.same sb
    have hb' := ht
    have sn := nP_small c0 (cell / 3)
    have sg := gP_small (cell / 3)
    have sc := cP_small (cell / 3)
    generalize nP (poolS c0 40) (cell / 3) = n at ht sn
    generalize gP (cell / 3) = g at ht sg
    generalize cP (cell / 3) = c at ht sc
    obtain ⟨ts, hts, kl⟩ := Ib.ks sd
    refine ⟨_, rfl, _, rfl, lk, _, _, _, rfl, rfl, SqL.of Ib.kp, at2k k sd, _, rfl, k sd, ts, R sd, t, n, g, c, rfl, hts, kl, ht, hR sd, fun vd Hc hvd sc' => ?_⟩
    have Ic := Ib.same sc'
    refine ⟨_, rfl, _, rfl, lr, _, _, _, rfl, rfl, SqL.of Ic.ro, at2k p sd, _, rfl, p sd, d sd, R sd, t, n, g, c, rfl, Ic.rs sd, sc' _ _ ht, sn, sg, sc, Nat.le_trans (hR sd) (by decide), fun v Hd hv RAd kpd => ?_⟩
    have Id := Ic.added C RAd kpd
    have kpn : ∀ b o, Hc b = some o → noDict o → Hd b = some o := fun b o q nq => kpd b o q fun z => by
      obtain ⟨⟨_, kvs, _, q2, _⟩, _⟩ := Ic.rs sd
      rw [z, q2] at q; cases q; exact nq
    have hvd' := K06.Is.keep kpn hvd
    have htd : Hd t = some (.tup [.int n, .int g, .int c]) := kpn _ _ (sc' _ _ ht) trivial
    refine ⟨_, rfl, _, _, hv, hvd', sh_due _ _ _ _, sh_due _ _ _ _, _, rfl, ?_⟩
    rw [if_pos rfl, eqD_refl]
    refine iteF ?_
    refine next_of ?_
    dsimp only
    -- if due[0] == "told": kept[side].append(person)
    obtain ⟨tt, w0, w1, tb, hvt, hq, hw, ht1, ht0⟩ : ∃ tt w0 w1, ∃ tb : Bool, vd = .ref tt ∧ SqT K Hd tt [.str w0, w1] ∧ decide (V.str w0 = V.str "told") = tb ∧ (tb = true → addR (R sd) n g c = R sd ++ [(n, g, c)] ∧ (R sd).length < 30) ∧ (tb = false → addR (R sd) n g c = R sd) := by
      rcases addR_cases (R := R sd) (n := n) (g := g) (c := c) (hR sd) with ⟨e1, e2, e3⟩ | ⟨e1, x, y, z, e2⟩
      · rw [e1] at hvd'
        cases hvd' with
        | tup hq hs => cases hs with
          | cons h1 h2 => cases h1; cases h2 with
            | cons h3 h4 => cases h4; exact ⟨_, _, _, true, rfl, hq, decide_eq_true rfl, fun _ => ⟨e2, e3⟩, fun z => nomatch z⟩
      · rw [e2] at hvd'
        cases hvd' with
        | tup hq hs => cases hs with
          | cons h1 h2 => cases h1; cases h2 with
            | cons h3 h4 =>
              cases h4
              exact ⟨_, _, _, false, rfl, hq, decide_eq_false (by intro q; exact absurd (V.str.inj q) (by decide +kernel)), (fun z => nomatch z), fun _ => e1⟩
    subst hvt
    refine seq_if_join (fun σ5 H5 => σ5 = [some (.ref b), some (.ref lp), some (.ref lr), some (.ref lk), some (.int ((3 + i : Nat) : Int)), some (.int cell), some (.int (if sd then 1 else 0)), some (.ref t), some (.ref tt), v9, none, none] ∧
      LawI a H lp lr lk (poolS c0 40) p d k (setB R sd (addR (R sd) n g c)) (setB R sd (addR (R sd) n g c)) H5) (b := tb)
      (fun Q q => ⟨_, rfl, tt, _, _, _, rfl, rfl, hq, (show atI [V.str w0, w1] 0 = some _ from rfl), rfl, _, rfl, by rw [hw]; exact q⟩) (fun hd1 N hN => ?_) (fun hd1 N hN => ?_) (fun σ5 H5 ⟨hσ5, I5⟩ => ?_)
    · obtain ⟨e2, e3⟩ := ht1 hd1
      obtain ⟨tsd, htsd, kld⟩ := Id.ks sd
      refine ⟨_, rfl, _, rfl, lk, _, _, _, rfl, rfl, SqL.of Id.kp, at2k k sd, k sd, tsd, rfl, htsd, _, rfl, tsd, htsd, small1000 (by rw [kld.length]; omega), hN _ _ ⟨rfl, ?_⟩⟩
      have Ie := Id.append C htsd kld htd
      rw [← e2] at Ie
      exact Ie
    · have e2 := ht0 hd1
      refine hN _ _ ⟨rfl, ?_⟩
      have e3 : setB R sd (addR (R sd) n g c) = R := by
        rw [e2]; funext u; unfold setB
        split
        · rename_i z; rw [z]
        · rfl
      rw [e3] at Id ⊢
      exact Id
    subst hσ5
    have hR5 : ∀ s, (setB R sd (addR (R sd) n g c) s).length ≤ 30 := fun s => by
      unfold setB
      split
      · rcases addR_cases (R := R sd) (n := n) (g := g) (c := c) (hR sd) with ⟨_, e2, e3⟩ | ⟨e2, _⟩
        · rw [e2, List.length_append]; simp only [List.length_cons, List.length_nil]; omega
        · rw [e2]; exact hR sd
      · exact hR s
    generalize setB R sd (addR (R sd) n g c) = R5 at I5 hR5
    -- found = rosters[side].numbers()
    have RA5 := I5.rs sd
    obtain ⟨⟨dx5, kvs5, hp5, hd5, en5⟩, nd5⟩ := id RA5
    refine ⟨_, rfl, _, rfl, lr, _, _, _, rfl, rfl, SqL.of I5.ro, at2k p sd, p sd, dx5, _, rfl, hp5, RosAt.no (by decide +kernel), p sd, d sd, R5 sd, rfl, RA5, fun lf hlf => ?_⟩
    have I6 := I5.same (same_upd (o := .lst ((R5 sd).map fun x => V.int x.1)) hlf)
    obtain ⟨ts6, hts6, kl6⟩ := I6.ks sd
    refine ⟨_, rfl, _, rfl, _, rfl, lk, _, _, _, rfl, rfl, SqL.of I6.kp, at2k k sd, k sd, rfl, ⟨_, SqL.of hts6⟩, L2.comp_map (hdV (upd H5 lf (.lst ((R5 sd).map fun x => V.int x.1)))) (SqL.of hts6) (by rw [kl6.length]; exact Nat.le_trans (hR5 sd) (by decide)) (fun i x R' hx k => ?_) (fun l2 hl2 => ?_)⟩
    · obtain ⟨t', n', g', c', rfl, _, ht'⟩ := kl6.get hx
      rw [hdV_of ht'] at k
      exact ⟨_, rfl, t', _, _, _, rfl, rfl, SqT.of ht', (show atI [V.int n', V.int g', V.int c'] 0 = some _ from rfl), k⟩
    rw [kl6.fst]
    have I7 := I6.same (same_upd (o := .lst ((R5 sd).map fun x => V.int x.1)) hl2)
    have em : ((R5 sd).map fun x => V.int x.1) = ((R5 sd).map (·.1)).map V.int := by rw [List.map_map]; rfl
    have hlf7 : upd (upd H5 lf (.lst ((R5 sd).map fun x => V.int x.1))) l2 (.lst ((R5 sd).map fun x => V.int x.1)) lf = some (.lst ((R5 sd).map fun x => V.int x.1)) := by rw [upd_ne (ne_of_none upd_same hl2)]; exact upd_same
    refine ⟨lf, l2, (R5 sd).map (·.1), (R5 sd).map (·.1), rfl, (by rw [← em]; exact hlf7), (by rw [← em]; exact SqL.of upd_same), (by rw [List.length_map]; exact Nat.le_trans (hR5 sd) (by decide)), _, rfl, ?_⟩
    rw [decide_eq_true rfl]
    refine iteF ?_
    refine ⟨_, rfl, lf, _, rfl, hlf7, _, hlf7, small1000 (by rw [List.length_map]; exact Nat.le_trans (hR5 sd) (by decide)), ?_⟩
    refine ⟨⟨_, _, _, _, _, _, rfl⟩, R5, hR5, ?_⟩
    refine I5.same fun b' o e => ?_
    rw [upd_ne (ne_of_none e hlf), upd_ne (ne_of_none (same_upd hlf _ _ e) hl2), upd_ne (ne_of_none e hlf)]
    exact e
  subst hσ
  -- the sizes, and what is asked
  refine ⟨by show 4 ≤ sizeLine; decide, fun l1 hl1 => ?_⟩
  have I1 := I.same (same_upd (o := .lst [.int 999, .int 9, .int 99, .int 30]) hl1)
  have q1 : upd H' l1 (.lst [.int 999, .int 9, .int 99, .int 30]) l1 = some (.lst [.int 999, .int 9, .int 99, .int 30]) := upd_same
  generalize upd H' l1 (.lst [.int 999, .int 9, .int 99, .int 30]) = H1' at I1 q1
  refine ⟨_, rfl, ?_⟩
  walk_at "rd"
  refine ⟨by show 4 ≤ sizeLine; decide, fun l2 hl2 => ?_⟩
  have I2 := I1.same (same_upd (o := .lst [.int 0, .int 1000, .int (-1), .int (10 ^ 20)]) hl2)
  have q2 := same_upd (o := .lst [.int 0, .int 1000, .int (-1), .int (10 ^ 20)]) hl2 _ _ q1
  refine ⟨lp, l2, (poolS c0 40).map V.int, [.int 0, .int 1000, .int (-1), .int (10 ^ 20)], rfl, rfl, I2.pl, upd_same, (by rw [List.length_map, poolS_length]; decide), fun l3 hl3 => ?_⟩
  have I3 := I2.same (same_upd (o := .lst ((poolS c0 40).map V.int ++ [.int 0, .int 1000, .int (-1), .int (10 ^ 20)])) hl3)
  have q3 := same_upd (o := .lst ((poolS c0 40).map V.int ++ [.int 0, .int 1000, .int (-1), .int (10 ^ 20)])) hl3 _ _ q2
  have a3 : upd (upd H1' l2 (.lst [.int 0, .int 1000, .int (-1), .int (10 ^ 20)])) l3 (.lst ((poolS c0 40).map V.int ++ [.int 0, .int 1000, .int (-1), .int (10 ^ 20)])) l3 = some (.lst ((poolS c0 40 ++ [0, 1000, -1, 10 ^ 20]).map V.int)) := by
    rw [upd_same, List.map_append]; rfl
  have hq : ∀ q ∈ poolS c0 40 ++ [0, 1000, -1, 10 ^ 20], smallI q := fun q hq => by
    rcases List.mem_append.mp hq with h1 | h1
    · have h2 := pool_small h1
      exact smallI_le (Nat.le_trans (show q.natAbs ≤ 999 by omega) (by decide))
    · refine smallI_le ?_
      simp only [List.mem_cons, List.not_mem_nil, or_false] at h1
      rcases h1 with rfl | rfl | rfl | rfl <;> decide +kernel
  refine ⟨_, rfl, by show 4 ≤ sizeLine; decide, fun l4 hl4 => ?_⟩
  have I4 := I3.same (same_upd (o := .lst [.int 999, .int 9, .int 99, .int 30]) hl4)
  have q4 := same_upd (o := .lst [.int 999, .int 9, .int 99, .int 30]) hl4 _ _ q3
  have a4 := same_upd (o := .lst [.int 999, .int 9, .int 99, .int 30]) hl4 _ _ a3
  refine ⟨l1, l4, [999, 9, 99, 30], [999, 9, 99, 30], rfl, q4, SqL.of upd_same, by decide, _, rfl, ?_⟩
  rw [decide_eq_true rfl]
  refine iteF ?_
  obtain ⟨ts0, h0, kl0⟩ := I4.ks false
  refine ⟨_, rfl, lr, _, _, _, rfl, rfl, SqL.of I4.ro, (show atI [V.ref (p false), V.ref (p true)] 0 = some _ from rfl), _, rfl, lk, _, _, _, rfl, rfl, SqL.of I4.kp, (show atI [V.ref (k false), V.ref (k true)] 0 = some _ from rfl), _, rfl,
    p false, d false, R false, k false, ts0, l3, _, rfl, I4.rs false, h0, kl0, hR false, SqL.of a4, hq, fun H5 e5 => ⟨_, rfl, ?_⟩⟩
  refine iteF ?_
  have I5 := I4.same e5
  obtain ⟨ts1, h1, kl1⟩ := I5.ks true
  refine ⟨_, rfl, lr, _, _, _, rfl, rfl, SqL.of I5.ro, (show atI [V.ref (p false), V.ref (p true)] 1 = some _ from rfl), _, rfl, lk, _, _, _, rfl, rfl, SqL.of I5.kp, (show atI [V.ref (k false), V.ref (k true)] 1 = some _ from rfl), _, rfl,
    p true, d true, R true, k true, ts1, l3, _, rfl, I5.rs true, h1, kl1, hR true, SqL.of (e5 _ _ a4), hq, fun H6 e6 => h H6⟩
end
end K06

set_option Elab.async false
set_option linter.all false
set_option maxRecDepth 100000
set_option maxHeartbeats 8000000
namespace K06
open PySem PySem.Spec PyProof.Rows L2 G
theorem all_mk {l : PySem.W.OpenLaw} {w : World} {K : PySem.W.Frag} {h : Heap} {mg : Str → Option Value} {fa cBookError cOutOfRange cKnownReferee cTooManyReferees cUnknownReferee cRoster f0 f1 f2 f3 f4 f5 f6 f7 f8 f9 f10 f11 f12 f13 f14 f15 f16 f17 f18 f19 f20 f21 : Addr} {tk0 tk1 tk2 tk3 : Tok} {od0 an0 od1 an1 od2 an2 od3 an3 od4 an4 od5 an5 od6 an6 od7 an7 od8 an8 od9 an9 od10 an10 od11 an11 od12 an12 od13 an13 od14 an14 od15 an15 od16 an16 od17 an17 od18 an18 od19 an19 od20 an20 od21 an21 : Option Addr} {sl0 sl1 sl2 sl3 sl4 sl5 sl6 sl7 sl8 sl9 sl10 sl11 sl12 sl13 sl14 sl15 sl16 sl17 sl18 sl19 sl20 sl21 : Array (Option Value)} {oc0 kV0 dc0 pm0 cd0 ct0 oc1 kV1 dc1 pm1 cd1 ct1 oc2 kV2 dc2 pm2 cd2 ct2 oc3 kV3 dc3 pm3 cd3 ct3 oc4 kV4 dc4 pm4 cd4 ct4 oc5 kV5 dc5 pm5 cd5 ct5 oc6 kV6 dc6 pm6 cd6 ct6 oc7 kV7 dc7 pm7 cd7 ct7 oc8 kV8 dc8 pm8 cd8 ct8 oc9 kV9 dc9 pm9 cd9 ct9 oc10 kV10 dc10 pm10 cd10 ct10 oc11 kV11 dc11 pm11 cd11 ct11 oc12 kV12 dc12 pm12 cd12 ct12 oc13 kV13 dc13 pm13 cd13 ct13 oc14 kV14 dc14 pm14 cd14 ct14 oc15 kV15 dc15 pm15 cd15 ct15 oc16 kV16 dc16 pm16 cd16 ct16 oc17 kV17 dc17 pm17 cd17 ct17 oc18 kV18 dc18 pm18 cd18 ct18 oc19 kV19 dc19 pm19 cd19 ct19 oc20 kV20 dc20 pm20 cd20 ct20 oc21 kV21 dc21 pm21 cd21 ct21 : Value} (X : K.In h) (G : h.Ns mainGlobals mg) (hfa : mg "law" = some (.ref fa))
    (a_BookError : PySem.W.nsIn K mainGlobals "BookError" = some (some (.ref cBookError)))
    (a_OutOfRange : PySem.W.nsIn K mainGlobals "OutOfRange" = some (some (.ref cOutOfRange)))
    (a_KnownReferee : PySem.W.nsIn K mainGlobals "KnownReferee" = some (some (.ref cKnownReferee)))
    (a_TooManyReferees : PySem.W.nsIn K mainGlobals "TooManyReferees" = some (some (.ref cTooManyReferees)))
    (a_UnknownReferee : PySem.W.nsIn K mainGlobals "UnknownReferee" = some (some (.ref cUnknownReferee)))
    (a_Roster : PySem.W.nsIn K mainGlobals "Roster" = some (some (.ref cRoster)))
    (pg_Roster : PySem.W.plainGet K cRoster Str.empty = true)
    (hd_Roster : PySem.W.hasDictIn K cRoster = true)
    (po_Roster : PySem.W.plainOver K cRoster = true)
    (sa_Roster : PySem.W.findIn K (.ref cRoster) "__setattr__" = some (some (.builtin "object.__setattr__")))
    (mk_Roster : PySem.W.makesIn K cRoster = true)
    (kc_Roster : PySem.W.keepIn K (.ref cRoster) = true)
    (n_entries : PySem.W.findIn K (.ref cRoster) "entries" = some none)
    (e_OutOfRange : PySem.W.excIn K cOutOfRange [.type "ValueError", .type "Exception", .type "BaseException", .type "object"] "ValueError.__new__" = true)
    (e_KnownReferee : PySem.W.excIn K cKnownReferee [.type "ValueError", .type "Exception", .type "BaseException", .type "object"] "ValueError.__new__" = true)
    (e_TooManyReferees : PySem.W.excIn K cTooManyReferees [.type "ValueError", .type "Exception", .type "BaseException", .type "object"] "ValueError.__new__" = true)
    (e_UnknownReferee : PySem.W.excIn K cUnknownReferee [.type "ValueError", .type "Exception", .type "BaseException", .type "object"] "ValueError.__new__" = true)
    (z_len : PySem.W.nsIn K mainGlobals "len" = some none)
    (z_list : PySem.W.nsIn K mainGlobals "list" = some none)
    (z_isinstance : PySem.W.nsIn K mainGlobals "isinstance" = some none)
    (z_int : PySem.W.nsIn K mainGlobals "int" = some none)
    (z_bool : PySem.W.nsIn K mainGlobals "bool" = some none)
    (z_range : PySem.W.nsIn K mainGlobals "range" = some none)
    (z_ValueError : PySem.W.nsIn K mainGlobals "ValueError" = some none)
    (ct_BookError : PySem.W.typeIn K (.ref cBookError) = some (.type "type"))
    (cb_BookError : PySem.W.mroIn K cBookError (.type "BaseException") = some true)
    (ct_UnknownReferee : PySem.W.typeIn K (.ref cUnknownReferee) = some (.type "type"))
    (cb_UnknownReferee : PySem.W.mroIn K cUnknownReferee (.type "BaseException") = some true)
    (ga_OutOfRange : PySem.W.findIn K (.ref cOutOfRange) "__getattribute__" = some (some (.builtin "BaseException.__getattribute__")))
    (gk_OutOfRange : PySem.W.findIn K (.ref cOutOfRange) "__getattr__" = some none)
    (at_OutOfRange : PySem.W.findIn K (.ref cOutOfRange) "__class__" = some (some (.builtin "object.__class__")))
    (mx_OutOfRange : PySem.W.mroIn K cOutOfRange (.type "BaseException") = some true)
    (mo_OutOfRange : PySem.W.mroIn K cOutOfRange (.type "object") = some true)
    (ga_KnownReferee : PySem.W.findIn K (.ref cKnownReferee) "__getattribute__" = some (some (.builtin "BaseException.__getattribute__")))
    (gk_KnownReferee : PySem.W.findIn K (.ref cKnownReferee) "__getattr__" = some none)
    (at_KnownReferee : PySem.W.findIn K (.ref cKnownReferee) "__class__" = some (some (.builtin "object.__class__")))
    (mx_KnownReferee : PySem.W.mroIn K cKnownReferee (.type "BaseException") = some true)
    (mo_KnownReferee : PySem.W.mroIn K cKnownReferee (.type "object") = some true)
    (ga_TooManyReferees : PySem.W.findIn K (.ref cTooManyReferees) "__getattribute__" = some (some (.builtin "BaseException.__getattribute__")))
    (gk_TooManyReferees : PySem.W.findIn K (.ref cTooManyReferees) "__getattr__" = some none)
    (at_TooManyReferees : PySem.W.findIn K (.ref cTooManyReferees) "__class__" = some (some (.builtin "object.__class__")))
    (mx_TooManyReferees : PySem.W.mroIn K cTooManyReferees (.type "BaseException") = some true)
    (mo_TooManyReferees : PySem.W.mroIn K cTooManyReferees (.type "object") = some true)
    (ga_UnknownReferee : PySem.W.findIn K (.ref cUnknownReferee) "__getattribute__" = some (some (.builtin "BaseException.__getattribute__")))
    (gk_UnknownReferee : PySem.W.findIn K (.ref cUnknownReferee) "__getattr__" = some none)
    (at_UnknownReferee : PySem.W.findIn K (.ref cUnknownReferee) "__class__" = some (some (.builtin "object.__class__")))
    (mx_UnknownReferee : PySem.W.mroIn K cUnknownReferee (.type "BaseException") = some true)
    (mo_UnknownReferee : PySem.W.mroIn K cUnknownReferee (.type "object") = some true)
    (gt : PySem.W.specialIn K (.builtin "object.__class__") "__get__" = some (some (.builtin "getset_descriptor.__get__")))
    (tk : PySem.W.takesIn K (.builtin "object.__class__") = some true)
    (m_OutOfRange_BookError : PySem.W.mroIn K cOutOfRange (.ref cBookError) = some true)
    (k_OutOfRange_OutOfRange : PySem.W.kitOne K (.ref cOutOfRange) (.ref cOutOfRange) = some true)
    (k_OutOfRange_KnownReferee : PySem.W.kitOne K (.ref cOutOfRange) (.ref cKnownReferee) = some false)
    (k_OutOfRange_TooManyReferees : PySem.W.kitOne K (.ref cOutOfRange) (.ref cTooManyReferees) = some false)
    (k_OutOfRange_ValueError : PySem.W.kitOne K (.ref cOutOfRange) (.type "ValueError") = some true)
    (m_KnownReferee_BookError : PySem.W.mroIn K cKnownReferee (.ref cBookError) = some true)
    (k_KnownReferee_OutOfRange : PySem.W.kitOne K (.ref cKnownReferee) (.ref cOutOfRange) = some false)
    (k_KnownReferee_KnownReferee : PySem.W.kitOne K (.ref cKnownReferee) (.ref cKnownReferee) = some true)
    (k_KnownReferee_TooManyReferees : PySem.W.kitOne K (.ref cKnownReferee) (.ref cTooManyReferees) = some false)
    (k_KnownReferee_ValueError : PySem.W.kitOne K (.ref cKnownReferee) (.type "ValueError") = some true)
    (m_TooManyReferees_BookError : PySem.W.mroIn K cTooManyReferees (.ref cBookError) = some true)
    (k_TooManyReferees_OutOfRange : PySem.W.kitOne K (.ref cTooManyReferees) (.ref cOutOfRange) = some false)
    (k_TooManyReferees_KnownReferee : PySem.W.kitOne K (.ref cTooManyReferees) (.ref cKnownReferee) = some false)
    (k_TooManyReferees_TooManyReferees : PySem.W.kitOne K (.ref cTooManyReferees) (.ref cTooManyReferees) = some true)
    (k_TooManyReferees_ValueError : PySem.W.kitOne K (.ref cTooManyReferees) (.type "ValueError") = some true)
    (m_UnknownReferee_BookError : PySem.W.mroIn K cUnknownReferee (.ref cBookError) = some true)
    (m_UnknownReferee_UnknownReferee : PySem.W.mroIn K cUnknownReferee (.ref cUnknownReferee) = some true)
    (k_UnknownReferee_OutOfRange : PySem.W.kitOne K (.ref cUnknownReferee) (.ref cOutOfRange) = some false)
    (k_UnknownReferee_KnownReferee : PySem.W.kitOne K (.ref cUnknownReferee) (.ref cKnownReferee) = some false)
    (k_UnknownReferee_TooManyReferees : PySem.W.kitOne K (.ref cUnknownReferee) (.ref cTooManyReferees) = some false)
    (k_UnknownReferee_ValueError : PySem.W.kitOne K (.ref cUnknownReferee) (.type "ValueError") = some true)
    (g_MOST_NUMBER : PySem.W.nsIn K mainGlobals "MOST_NUMBER" = some (some (.int 999 tk0)))
    (g_MOST_GRADE : PySem.W.nsIn K mainGlobals "MOST_GRADE" = some (some (.int 9 tk1)))
    (g_MOST_CLUB : PySem.W.nsIn K mainGlobals "MOST_CLUB" = some (some (.int 99 tk2)))
    (g_MOST_REFEREES : PySem.W.nsIn K mainGlobals "MOST_REFEREES" = some (some (.int 30 tk3)))
    (b0 : PySem.W.nsIn K mainGlobals "check_range" = some (some (.ref f0)))
    (l0 : K.lookup f0 = some ⟨oc0, od0, .func (PySem.W.fnOf "check_range" "check_range" (defArgs s_check_range) (defBody s_check_range) (defScope s_check_range) .none kV0 dc0 pm0 an0 cd0 ct0), sl0⟩)
    (c0 : PySem.W.codeIn K cd0 "check_range" = true)
    (k0 : PySem.W.keepIn K (.ref f0) = true)
    (b1 : PySem.W.findIn K (.ref cRoster) "__init__" = some (some (.ref f1)))
    (i1 : PySem.W.isFn K (.ref f1) = true)
    (l1 : K.lookup f1 = some ⟨oc1, od1, .func (PySem.W.fnOf "__init__" "Roster.__init__" (defArgs s_Roster___init__) (defBody s_Roster___init__) (defScope s_Roster___init__) .none kV1 dc1 pm1 an1 cd1 ct1), sl1⟩)
    (c1 : PySem.W.codeIn K cd1 "Roster.__init__" = true)
    (k1 : PySem.W.keepIn K (.ref f1) = true)
    (b2 : PySem.W.findIn K (.ref cRoster) "check_new" = some (some (.ref f2)))
    (i2 : PySem.W.isFn K (.ref f2) = true)
    (l2 : K.lookup f2 = some ⟨oc2, od2, .func (PySem.W.fnOf "check_new" "Roster.check_new" (defArgs s_Roster_check_new) (defBody s_Roster_check_new) (defScope s_Roster_check_new) .none kV2 dc2 pm2 an2 cd2 ct2), sl2⟩)
    (c2 : PySem.W.codeIn K cd2 "Roster.check_new" = true)
    (k2 : PySem.W.keepIn K (.ref f2) = true)
    (b3 : PySem.W.findIn K (.ref cRoster) "check_known" = some (some (.ref f3)))
    (i3 : PySem.W.isFn K (.ref f3) = true)
    (l3 : K.lookup f3 = some ⟨oc3, od3, .func (PySem.W.fnOf "check_known" "Roster.check_known" (defArgs s_Roster_check_known) (defBody s_Roster_check_known) (defScope s_Roster_check_known) .none kV3 dc3 pm3 an3 cd3 ct3), sl3⟩)
    (c3 : PySem.W.codeIn K cd3 "Roster.check_known" = true)
    (k3 : PySem.W.keepIn K (.ref f3) = true)
    (b4 : PySem.W.findIn K (.ref cRoster) "add" = some (some (.ref f4)))
    (i4 : PySem.W.isFn K (.ref f4) = true)
    (l4 : K.lookup f4 = some ⟨oc4, od4, .func (PySem.W.fnOf "add" "Roster.add" (defArgs s_Roster_add) (defBody s_Roster_add) (defScope s_Roster_add) .none kV4 dc4 pm4 an4 cd4 ct4), sl4⟩)
    (c4 : PySem.W.codeIn K cd4 "Roster.add" = true)
    (k4 : PySem.W.keepIn K (.ref f4) = true)
    (b5 : PySem.W.findIn K (.ref cRoster) "has" = some (some (.ref f5)))
    (i5 : PySem.W.isFn K (.ref f5) = true)
    (l5 : K.lookup f5 = some ⟨oc5, od5, .func (PySem.W.fnOf "has" "Roster.has" (defArgs s_Roster_has) (defBody s_Roster_has) (defScope s_Roster_has) .none kV5 dc5 pm5 an5 cd5 ct5), sl5⟩)
    (c5 : PySem.W.codeIn K cd5 "Roster.has" = true)
    (k5 : PySem.W.keepIn K (.ref f5) = true)
    (b6 : PySem.W.findIn K (.ref cRoster) "numbers" = some (some (.ref f6)))
    (i6 : PySem.W.isFn K (.ref f6) = true)
    (l6 : K.lookup f6 = some ⟨oc6, od6, .func (PySem.W.fnOf "numbers" "Roster.numbers" (defArgs s_Roster_numbers) (defBody s_Roster_numbers) (defScope s_Roster_numbers) .none kV6 dc6 pm6 an6 cd6 ct6), sl6⟩)
    (c6 : PySem.W.codeIn K cd6 "Roster.numbers" = true)
    (k6 : PySem.W.keepIn K (.ref f6) = true)
    (b7 : PySem.W.findIn K (.ref cRoster) "entry" = some (some (.ref f7)))
    (i7 : PySem.W.isFn K (.ref f7) = true)
    (l7 : K.lookup f7 = some ⟨oc7, od7, .func (PySem.W.fnOf "entry" "Roster.entry" (defArgs s_Roster_entry) (defBody s_Roster_entry) (defScope s_Roster_entry) .none kV7 dc7 pm7 an7 cd7 ct7), sl7⟩)
    (c7 : PySem.W.codeIn K cd7 "Roster.entry" = true)
    (k7 : PySem.W.keepIn K (.ref f7) = true)
    (b8 : PySem.W.findIn K (.ref cRoster) "grade" = some (some (.ref f8)))
    (i8 : PySem.W.isFn K (.ref f8) = true)
    (l8 : K.lookup f8 = some ⟨oc8, od8, .func (PySem.W.fnOf "grade" "Roster.grade" (defArgs s_Roster_grade) (defBody s_Roster_grade) (defScope s_Roster_grade) .none kV8 dc8 pm8 an8 cd8 ct8), sl8⟩)
    (c8 : PySem.W.codeIn K cd8 "Roster.grade" = true)
    (k8 : PySem.W.keepIn K (.ref f8) = true)
    (b9 : PySem.W.findIn K (.ref cRoster) "club" = some (some (.ref f9)))
    (i9 : PySem.W.isFn K (.ref f9) = true)
    (l9 : K.lookup f9 = some ⟨oc9, od9, .func (PySem.W.fnOf "club" "Roster.club" (defArgs s_Roster_club) (defBody s_Roster_club) (defScope s_Roster_club) .none kV9 dc9 pm9 an9 cd9 ct9), sl9⟩)
    (c9 : PySem.W.codeIn K cd9 "Roster.club" = true)
    (k9 : PySem.W.keepIn K (.ref f9) = true)
    (b10 : PySem.W.nsIn K mainGlobals "_law_whole" = some (some (.ref f10)))
    (l10 : K.lookup f10 = some ⟨oc10, od10, .func (PySem.W.fnOf "_law_whole" "_law_whole" (defArgs s_law_whole) (defBody s_law_whole) (defScope s_law_whole) .none kV10 dc10 pm10 an10 cd10 ct10), sl10⟩)
    (c10 : PySem.W.codeIn K cd10 "_law_whole" = true)
    (k10 : PySem.W.keepIn K (.ref f10) = true)
    (b11 : PySem.W.nsIn K mainGlobals "_law_at" = some (some (.ref f11)))
    (l11 : K.lookup f11 = some ⟨oc11, od11, .func (PySem.W.fnOf "_law_at" "_law_at" (defArgs s_law_at) (defBody s_law_at) (defScope s_law_at) .none kV11 dc11 pm11 an11 cd11 ct11), sl11⟩)
    (c11 : PySem.W.codeIn K cd11 "_law_at" = true)
    (k11 : PySem.W.keepIn K (.ref f11) = true)
    (b12 : PySem.W.nsIn K mainGlobals "_law_mix" = some (some (.ref f12)))
    (l12 : K.lookup f12 = some ⟨oc12, od12, .func (PySem.W.fnOf "_law_mix" "_law_mix" (defArgs s_law_mix) (defBody s_law_mix) (defScope s_law_mix) .none kV12 dc12 pm12 an12 cd12 ct12), sl12⟩)
    (c12 : PySem.W.codeIn K cd12 "_law_mix" = true)
    (k12 : PySem.W.keepIn K (.ref f12) = true)
    (b13 : PySem.W.nsIn K mainGlobals "_law_numbers" = some (some (.ref f13)))
    (l13 : K.lookup f13 = some ⟨oc13, od13, .func (PySem.W.fnOf "_law_numbers" "_law_numbers" (defArgs s_law_numbers) (defBody s_law_numbers) (defScope s_law_numbers) .none kV13 dc13 pm13 an13 cd13 ct13), sl13⟩)
    (c13 : PySem.W.codeIn K cd13 "_law_numbers" = true)
    (k13 : PySem.W.keepIn K (.ref f13) = true)
    (b14 : PySem.W.nsIn K mainGlobals "_law_one_is" = some (some (.ref f14)))
    (l14 : K.lookup f14 = some ⟨oc14, od14, .func (PySem.W.fnOf "_law_one_is" "_law_one_is" (defArgs s_law_one_is) (defBody s_law_one_is) (defScope s_law_one_is) .none kV14 dc14 pm14 an14 cd14 ct14), sl14⟩)
    (c14 : PySem.W.codeIn K cd14 "_law_one_is" = true)
    (k14 : PySem.W.keepIn K (.ref f14) = true)
    (b15 : PySem.W.nsIn K mainGlobals "_law_list_is" = some (some (.ref f15)))
    (l15 : K.lookup f15 = some ⟨oc15, od15, .func (PySem.W.fnOf "_law_list_is" "_law_list_is" (defArgs s_law_list_is) (defBody s_law_list_is) (defScope s_law_list_is) .none kV15 dc15 pm15 an15 cd15 ct15), sl15⟩)
    (c15 : PySem.W.codeIn K cd15 "_law_list_is" = true)
    (k15 : PySem.W.keepIn K (.ref f15) = true)
    (b16 : PySem.W.nsIn K mainGlobals "_law_added" = some (some (.ref f16)))
    (l16 : K.lookup f16 = some ⟨oc16, od16, .func (PySem.W.fnOf "_law_added" "_law_added" (defArgs s_law_added) (defBody s_law_added) (defScope s_law_added) .none kV16 dc16 pm16 an16 cd16 ct16), sl16⟩)
    (c16 : PySem.W.codeIn K cd16 "_law_added" = true)
    (k16 : PySem.W.keepIn K (.ref f16) = true)
    (b17 : PySem.W.nsIn K mainGlobals "_law_due" = some (some (.ref f17)))
    (l17 : K.lookup f17 = some ⟨oc17, od17, .func (PySem.W.fnOf "_law_due" "_law_due" (defArgs s_law_due) (defBody s_law_due) (defScope s_law_due) .none kV17 dc17 pm17 an17 cd17 ct17), sl17⟩)
    (c17 : PySem.W.codeIn K cd17 "_law_due" = true)
    (k17 : PySem.W.keepIn K (.ref f17) = true)
    (b18 : PySem.W.nsIn K mainGlobals "_law_person" = some (some (.ref f18)))
    (l18 : K.lookup f18 = some ⟨oc18, od18, .func (PySem.W.fnOf "_law_person" "_law_person" (defArgs s_law_person) (defBody s_law_person) (defScope s_law_person) .none kV18 dc18 pm18 an18 cd18 ct18), sl18⟩)
    (c18 : PySem.W.codeIn K cd18 "_law_person" = true)
    (k18 : PySem.W.keepIn K (.ref f18) = true)
    (b19 : PySem.W.nsIn K mainGlobals "_law_unknown" = some (some (.ref f19)))
    (l19 : K.lookup f19 = some ⟨oc19, od19, .func (PySem.W.fnOf "_law_unknown" "_law_unknown" (defArgs s_law_unknown) (defBody s_law_unknown) (defScope s_law_unknown) .none kV19 dc19 pm19 an19 cd19 ct19), sl19⟩)
    (c19 : PySem.W.codeIn K cd19 "_law_unknown" = true)
    (k19 : PySem.W.keepIn K (.ref f19) = true)
    (b20 : PySem.W.nsIn K mainGlobals "_law_keeps" = some (some (.ref f20)))
    (l20 : K.lookup f20 = some ⟨oc20, od20, .func (PySem.W.fnOf "_law_keeps" "_law_keeps" (defArgs s_law_keeps) (defBody s_law_keeps) (defScope s_law_keeps) .none kV20 dc20 pm20 an20 cd20 ct20), sl20⟩)
    (c20 : PySem.W.codeIn K cd20 "_law_keeps" = true)
    (k20 : PySem.W.keepIn K (.ref f20) = true)
    (b21 : PySem.W.nsIn K mainGlobals "law" = some (some (.ref f21)))
    (l21 : K.lookup f21 = some ⟨oc21, od21, .func (PySem.W.fnOf "law" "law" (defArgs s_law) (defBody s_law) (defScope s_law) .none kV21 dc21 pm21 an21 cd21 ct21), sl21⟩)
    (c21 : PySem.W.codeIn K cd21 "law" = true)
    (k21 : PySem.W.keepIn K (.ref f21) = true)
    : ∃ fd : FuncData, (∀ (s : Shared) (v : Value), BindsTo s fd ⟨[v], []⟩ [("_law_script", v)]) ∧ ∀ base : Heap, K.In base → base.Ns mainGlobals mg → FnOk l.prog w K mg base (CX1 l.prog w) 6 fa fd ["_law_script"] (spLaw K) := by
  have e := hfa.symm.trans (PySem.W.mg_of X G b21)
  cases e
  let a : Ad := ⟨cBookError, cOutOfRange, cKnownReferee, cTooManyReferees, cUnknownReferee, cRoster⟩
  have T : Tx K mg a := ⟨⟨pg_Roster, hd_Roster, po_Roster, sa_Roster⟩,
    n_entries,
    ⟨PySem.W.mg_of X G a_OutOfRange, e_OutOfRange⟩,
    ⟨PySem.W.mg_of X G a_KnownReferee, e_KnownReferee⟩,
    ⟨PySem.W.mg_of X G a_TooManyReferees, e_TooManyReferees⟩,
    ⟨PySem.W.mg_of X G a_UnknownReferee, e_UnknownReferee⟩,
    PySem.W.mg_none_of X G z_len,
    PySem.W.mg_none_of X G z_list,
    PySem.W.mg_none_of X G z_isinstance,
    PySem.W.mg_none_of X G z_int,
    PySem.W.mg_none_of X G z_bool,
    PySem.W.mg_none_of X G z_range,
    PySem.W.mg_none_of X G z_ValueError,
    PySem.W.mg_of X G a_BookError,
    PySem.W.mg_of X G a_OutOfRange,
    PySem.W.mg_of X G a_KnownReferee,
    PySem.W.mg_of X G a_TooManyReferees,
    PySem.W.mg_of X G a_UnknownReferee,
    PySem.W.mg_of X G a_Roster,
    ⟨ct_BookError, cls_of_mro cb_BookError, cb_BookError⟩,
    ⟨ct_UnknownReferee, cls_of_mro cb_UnknownReferee, cb_UnknownReferee⟩,
    ⟨ga_OutOfRange, gk_OutOfRange, cls_of_mro mo_OutOfRange, at_OutOfRange, gt, tk, mo_OutOfRange, mx_OutOfRange⟩,
    m_OutOfRange_BookError,
    k_OutOfRange_OutOfRange,
    k_OutOfRange_KnownReferee,
    k_OutOfRange_TooManyReferees,
    k_OutOfRange_ValueError,
    ⟨ga_KnownReferee, gk_KnownReferee, cls_of_mro mo_KnownReferee, at_KnownReferee, gt, tk, mo_KnownReferee, mx_KnownReferee⟩,
    m_KnownReferee_BookError,
    k_KnownReferee_OutOfRange,
    k_KnownReferee_KnownReferee,
    k_KnownReferee_TooManyReferees,
    k_KnownReferee_ValueError,
    ⟨ga_TooManyReferees, gk_TooManyReferees, cls_of_mro mo_TooManyReferees, at_TooManyReferees, gt, tk, mo_TooManyReferees, mx_TooManyReferees⟩,
    m_TooManyReferees_BookError,
    k_TooManyReferees_OutOfRange,
    k_TooManyReferees_KnownReferee,
    k_TooManyReferees_TooManyReferees,
    k_TooManyReferees_ValueError,
    ⟨ga_UnknownReferee, gk_UnknownReferee, cls_of_mro mo_UnknownReferee, at_UnknownReferee, gt, tk, mo_UnknownReferee, mx_UnknownReferee⟩,
    m_UnknownReferee_BookError,
    m_UnknownReferee_UnknownReferee,
    k_UnknownReferee_OutOfRange,
    k_UnknownReferee_KnownReferee,
    k_UnknownReferee_TooManyReferees,
    k_UnknownReferee_ValueError,
    ⟨_, PySem.W.mg_of X G g_MOST_NUMBER⟩,
    ⟨_, PySem.W.mg_of X G g_MOST_GRADE⟩,
    ⟨_, PySem.W.mg_of X G g_MOST_CLUB⟩,
    ⟨_, PySem.W.mg_of X G g_MOST_REFEREES⟩⟩
  have F0 := fun_mk (st := s_check_range) l0 c0 k0
  have B0 := F0.binds (ps := ["value", "least", "most"]) fun _ _ _ _ _ _ us hl => match us, hl with | [_, _, _], _ => rfl
  have F1 := fun_mk (st := s_Roster___init__) l1 c1 k1
  have B1 := F1.binds (ps := ["self"]) fun _ _ _ _ _ _ us hl => match us, hl with | [_], _ => rfl
  have F2 := fun_mk (st := s_Roster_check_new) l2 c2 k2
  have B2 := F2.binds (ps := ["self", "number", "grade", "club"]) fun _ _ _ _ _ _ us hl => match us, hl with | [_, _, _, _], _ => rfl
  have F3 := fun_mk (st := s_Roster_check_known) l3 c3 k3
  have B3 := F3.binds (ps := ["self", "number"]) fun _ _ _ _ _ _ us hl => match us, hl with | [_, _], _ => rfl
  have F4 := fun_mk (st := s_Roster_add) l4 c4 k4
  have B4 := F4.binds (ps := ["self", "number", "grade", "club"]) fun _ _ _ _ _ _ us hl => match us, hl with | [_, _, _, _], _ => rfl
  have F5 := fun_mk (st := s_Roster_has) l5 c5 k5
  have B5 := F5.binds (ps := ["self", "number"]) fun _ _ _ _ _ _ us hl => match us, hl with | [_, _], _ => rfl
  have F6 := fun_mk (st := s_Roster_numbers) l6 c6 k6
  have B6 := F6.binds (ps := ["self"]) fun _ _ _ _ _ _ us hl => match us, hl with | [_], _ => rfl
  have F7 := fun_mk (st := s_Roster_entry) l7 c7 k7
  have B7 := F7.binds (ps := ["self", "number"]) fun _ _ _ _ _ _ us hl => match us, hl with | [_, _], _ => rfl
  have F8 := fun_mk (st := s_Roster_grade) l8 c8 k8
  have B8 := F8.binds (ps := ["self", "number"]) fun _ _ _ _ _ _ us hl => match us, hl with | [_, _], _ => rfl
  have F9 := fun_mk (st := s_Roster_club) l9 c9 k9
  have B9 := F9.binds (ps := ["self", "number"]) fun _ _ _ _ _ _ us hl => match us, hl with | [_, _], _ => rfl
  have F10 := fun_mk (st := s_law_whole) l10 c10 k10
  have B10 := F10.binds (ps := ["_law_found"]) fun _ _ _ _ _ _ us hl => match us, hl with | [_], _ => rfl
  have F11 := fun_mk (st := s_law_at) l11 c11 k11
  have B11 := F11.binds (ps := ["_law_script", "_law_k"]) fun _ _ _ _ _ _ us hl => match us, hl with | [_, _], _ => rfl
  have F12 := fun_mk (st := s_law_mix) l12 c12 k12
  have B12 := F12.binds (ps := ["_law_cell", "_law_k"]) fun _ _ _ _ _ _ us hl => match us, hl with | [_, _], _ => rfl
  have F13 := fun_mk (st := s_law_numbers) l13 c13 k13
  have B13 := F13.binds (ps := ["_law_cell", "_law_many"]) fun _ _ _ _ _ _ us hl => match us, hl with | [_, _], _ => rfl
  have F14 := fun_mk (st := s_law_one_is) l14 c14 k14
  have B14 := F14.binds (ps := ["_law_found", "_law_due_here"]) fun _ _ _ _ _ _ us hl => match us, hl with | [_, _], _ => rfl
  have F15 := fun_mk (st := s_law_list_is) l15 c15 k15
  have B15 := F15.binds (ps := ["_law_found", "_law_due_here"]) fun _ _ _ _ _ _ us hl => match us, hl with | [_, _], _ => rfl
  have F16 := fun_mk (st := s_law_added) l16 c16 k16
  have B16 := F16.binds (ps := ["_law_roster", "_law_person_here"]) fun _ _ _ _ _ _ us hl => match us, hl with | [_, _], _ => rfl
  have F17 := fun_mk (st := s_law_due) l17 c17 k17
  have B17 := F17.binds (ps := ["_law_kept", "_law_person_here"]) fun _ _ _ _ _ _ us hl => match us, hl with | [_, _], _ => rfl
  have F18 := fun_mk (st := s_law_person) l18 c18 k18
  have B18 := F18.binds (ps := ["_law_cell", "_law_pool"]) fun _ _ _ _ _ _ us hl => match us, hl with | [_, _], _ => rfl
  have F19 := fun_mk (st := s_law_unknown) l19 c19 k19
  have B19 := F19.binds (ps := ["_law_roster", "_law_number"]) fun _ _ _ _ _ _ us hl => match us, hl with | [_, _], _ => rfl
  have F20 := fun_mk (st := s_law_keeps) l20 c20 k20
  have B20 := F20.binds (ps := ["_law_roster", "_law_kept", "_law_asked"]) fun _ _ _ _ _ _ us hl => match us, hl with | [_, _, _], _ => rfl
  have F21 := fun_mk (st := s_law) l21 c21 k21
  refine ⟨PySem.W.fnOf "law" "law" (defArgs s_law) (defBody s_law) (defScope s_law) .none kV21 dc21 pm21 an21 cd21 ct21, fun s v => .of_eq rfl, fun base _ _ => ?_⟩
  have D_check_range : DefOk l.prog w K mg base "check_range" 1 ["value", "least", "most"] (spRange a) := ⟨_, _, ok_check_range F0 T , PySem.W.mg_of X G b0, k0, B0⟩
  have N_Roster : MakeOk l.prog w K mg base "Roster" a.cRoster 1 ["self"] (spInit a) := ⟨_, _, ok_Roster___init__ F1 T , ⟨mk_Roster, b1, i1, kc_Roster⟩, PySem.W.mg_of X G a_Roster, B1⟩
  have M_Roster_check_known : MethOk l.prog w K mg base a.cRoster "check_known" 1 ["self", "number"] (spKnown a) := ⟨_, _, ok_Roster_check_known F3 T , ⟨b3, i3, k3⟩, B3⟩
  have M_Roster_has : MethOk l.prog w K mg base a.cRoster "has" 1 ["self", "number"] (spHas a) := ⟨_, _, ok_Roster_has F5 T , ⟨b5, i5, k5⟩, B5⟩
  have M_Roster_numbers : MethOk l.prog w K mg base a.cRoster "numbers" 1 ["self"] (spNumbers a) := ⟨_, _, ok_Roster_numbers F6 T , ⟨b6, i6, k6⟩, B6⟩
  have D_law_whole : DefOk l.prog w K mg base "_law_whole" 1 ["_law_found"] spWhole := ⟨_, _, ok_law_whole F10 T , PySem.W.mg_of X G b10, k10, B10⟩
  have D_law_at : DefOk l.prog w K mg base "_law_at" 1 ["_law_script", "_law_k"] (spAt K) := ⟨_, _, ok_law_at F11 T , PySem.W.mg_of X G b11, k11, B11⟩
  have D_law_mix : DefOk l.prog w K mg base "_law_mix" 1 ["_law_cell", "_law_k"] spMix := ⟨_, _, ok_law_mix F12 T , PySem.W.mg_of X G b12, k12, B12⟩
  have D_law_numbers : DefOk l.prog w K mg base "_law_numbers" 1 ["_law_cell", "_law_many"] spNumbers2 := ⟨_, _, ok_law_numbers F13 T , PySem.W.mg_of X G b13, k13, B13⟩
  have D_law_due : DefOk l.prog w K mg base "_law_due" 1 ["_law_kept", "_law_person_here"] (spDue K) := ⟨_, _, ok_law_due F17 T , PySem.W.mg_of X G b17, k17, B17⟩
  have D_law_person : DefOk l.prog w K mg base "_law_person" 1 ["_law_cell", "_law_pool"] (spPerson K) := ⟨_, _, ok_law_person F18 T , PySem.W.mg_of X G b18, k18, B18⟩
  have M_Roster_check_new : MethOk l.prog w K mg base a.cRoster "check_new" 2 ["self", "number", "grade", "club"] (spNew a) := ⟨_, _, ok_Roster_check_new F2 T D_check_range, ⟨b2, i2, k2⟩, B2⟩
  have M_Roster_entry : MethOk l.prog w K mg base a.cRoster "entry" 2 ["self", "number"] (spEntry a) := ⟨_, _, ok_Roster_entry F7 T M_Roster_check_known, ⟨b7, i7, k7⟩, B7⟩
  have D_law_one_is : DefOk l.prog w K mg base "_law_one_is" 2 ["_law_found", "_law_due_here"] spOneIs := ⟨_, _, ok_law_one_is F14 T D_law_whole, PySem.W.mg_of X G b14, k14, B14⟩
  have M_Roster_add : MethOk l.prog w K mg base a.cRoster "add" 3 ["self", "number", "grade", "club"] (spAdd a) := ⟨_, _, ok_Roster_add F4 T M_Roster_check_new, ⟨b4, i4, k4⟩, B4⟩
  have M_Roster_grade : MethOk l.prog w K mg base a.cRoster "grade" 3 ["self", "number"] (spGrade a) := ⟨_, _, ok_Roster_grade F8 T M_Roster_entry, ⟨b8, i8, k8⟩, B8⟩
  have M_Roster_club : MethOk l.prog w K mg base a.cRoster "club" 3 ["self", "number"] (spClub a) := ⟨_, _, ok_Roster_club F9 T M_Roster_entry, ⟨b9, i9, k9⟩, B9⟩
  have D_law_list_is : DefOk l.prog w K mg base "_law_list_is" 3 ["_law_found", "_law_due_here"] (spListIs K) := ⟨_, _, ok_law_list_is F15 T D_law_one_is, PySem.W.mg_of X G b15, k15, B15⟩
  have D_law_added : DefOk l.prog w K mg base "_law_added" 4 ["_law_roster", "_law_person_here"] (spAdded K a) := ⟨_, _, ok_law_added F16 T M_Roster_add, PySem.W.mg_of X G b16, k16, B16⟩
  have D_law_unknown : DefOk l.prog w K mg base "_law_unknown" 4 ["_law_roster", "_law_number"] (spUnknown a) := ⟨_, _, ok_law_unknown F19 T M_Roster_grade M_Roster_club M_Roster_has, PySem.W.mg_of X G b19, k19, B19⟩
  have D_law_keeps : DefOk l.prog w K mg base "_law_keeps" 5 ["_law_roster", "_law_kept", "_law_asked"] (spKeeps K a) := ⟨_, _, ok_law_keeps F20 T D_law_list_is M_Roster_numbers D_law_unknown M_Roster_has D_law_one_is M_Roster_grade M_Roster_club, PySem.W.mg_of X G b20, k20, B20⟩
  exact ok_law F21 T D_law_numbers D_law_at N_Roster D_law_added D_law_mix D_law_person D_law_due M_Roster_numbers D_law_list_is D_law_keeps
theorem walk {l : PySem.W.OpenLaw} {q : Program} {loose : List Str} {XP : (Str → Option Value) → Heap → Prop} {YP : World → Heap → Prop} {d : DefRec} {K : Params → PySem.W.Frag} (hn : l.most = some 63) (hdf : d.params.defaults = [])
    (hY : ∀ (w : World) (h : Heap), YP w h → (K w.params).In h)
    (F : ∀ (w : World) (mg : Str → Option Value) (fa : Addr) (h : Heap), (K w.params).In h → h.Ns mainGlobals mg → mg d.name = some (.ref fa) →
      ∃ fd : FuncData, (∀ (s : Shared) (u : Value), BindsTo s fd ⟨[u], []⟩ [("_law_script", u)]) ∧ ∀ base : Heap, (K w.params).In base → base.Ns mainGlobals mg → FnOk l.prog w (K w.params) mg base (CX1 l.prog w) 6 fa fd ["_law_script"] (spLaw (K w.params))) :
    PySem.W.WalkO q loose XP YP l.row.toRowW d [] (fun f vs => PySem.call f vs) :=
  L2.walk_of (n := 63) (k := 6) (x := "_law_script") (CX := fun w => CX1 l.prog w) (sp := fun w => spLaw (K w.params)) hn (by decide) hdf ⟨rfl, by decide, by decide⟩ hY F (fun _ _ a ns hl _ hS => ⟨a, ns, rfl, hS, hl, fun _ => rfl⟩) fun _ _ _ _ _ z => by obtain ⟨_, _, _, _, _, _, _, _, _, _, z⟩ := z; exact z
end K06
open PySem PySem.W PyProof.Rows
set_option maxRecDepth 100000 in
set_option maxHeartbeats 0 in
theorem PySem.Challenge.cw_whistlebook_k06_roster_holds : PySem.Challenge.rw_whistlebook_k06_roster.Holds := by
  w_on; o_law; k_head; (case hw => w_witness2)
  k_fill
  refine K06.walk (l := PySem.Challenge.rw_whistlebook_k06_roster) rfl rfl (fun w h Y => PySem.W.kIn_of Y) ?F
  case F =>
    intro w mg fa h KX G hmg
    refine' K06.all_mk KX G hmg ?a_BookError ?a_OutOfRange ?a_KnownReferee ?a_TooManyReferees ?a_UnknownReferee ?a_Roster ?pg_Roster ?hd_Roster ?po_Roster ?sa_Roster ?mk_Roster ?kc_Roster ?n_entries ?e_OutOfRange ?e_KnownReferee ?e_TooManyReferees ?e_UnknownReferee ?z_len ?z_list ?z_isinstance ?z_int ?z_bool ?z_range ?z_ValueError ?ct_BookError ?cb_BookError ?ct_UnknownReferee ?cb_UnknownReferee ?ga_OutOfRange ?gk_OutOfRange ?at_OutOfRange ?mx_OutOfRange ?mo_OutOfRange ?ga_KnownReferee ?gk_KnownReferee ?at_KnownReferee ?mx_KnownReferee ?mo_KnownReferee ?ga_TooManyReferees ?gk_TooManyReferees ?at_TooManyReferees ?mx_TooManyReferees ?mo_TooManyReferees ?ga_UnknownReferee ?gk_UnknownReferee ?at_UnknownReferee ?mx_UnknownReferee ?mo_UnknownReferee ?gt ?tk ?m_OutOfRange_BookError ?k_OutOfRange_OutOfRange ?k_OutOfRange_KnownReferee ?k_OutOfRange_TooManyReferees ?k_OutOfRange_ValueError ?m_KnownReferee_BookError ?k_KnownReferee_OutOfRange ?k_KnownReferee_KnownReferee ?k_KnownReferee_TooManyReferees ?k_KnownReferee_ValueError ?m_TooManyReferees_BookError ?k_TooManyReferees_OutOfRange ?k_TooManyReferees_KnownReferee ?k_TooManyReferees_TooManyReferees ?k_TooManyReferees_ValueError ?m_UnknownReferee_BookError ?m_UnknownReferee_UnknownReferee ?k_UnknownReferee_OutOfRange ?k_UnknownReferee_KnownReferee ?k_UnknownReferee_TooManyReferees ?k_UnknownReferee_ValueError ?g_MOST_NUMBER ?g_MOST_GRADE ?g_MOST_CLUB ?g_MOST_REFEREES ?b0 ?l0 ?c0 ?k0 ?b1 ?i1 ?l1 ?c1 ?k1 ?b2 ?i2 ?l2 ?c2 ?k2 ?b3 ?i3 ?l3 ?c3 ?k3 ?b4 ?i4 ?l4 ?c4 ?k4 ?b5 ?i5 ?l5 ?c5 ?k5 ?b6 ?i6 ?l6 ?c6 ?k6 ?b7 ?i7 ?l7 ?c7 ?k7 ?b8 ?i8 ?l8 ?c8 ?k8 ?b9 ?i9 ?l9 ?c9 ?k9 ?b10 ?l10 ?c10 ?k10 ?b11 ?l11 ?c11 ?k11 ?b12 ?l12 ?c12 ?k12 ?b13 ?l13 ?c13 ?k13 ?b14 ?l14 ?c14 ?k14 ?b15 ?l15 ?c15 ?k15 ?b16 ?l16 ?c16 ?k16 ?b17 ?l17 ?c17 ?k17 ?b18 ?l18 ?c18 ?k18 ?b19 ?l19 ?c19 ?k19 ?b20 ?l20 ?c20 ?k20 ?b21 ?l21 ?c21 ?k21
    (case a_BookError => k_is)
    (case a_OutOfRange => k_is)
    (case a_KnownReferee => k_is)
    (case a_TooManyReferees => k_is)
    (case a_UnknownReferee => k_is)
    (case a_Roster => k_is)
    (case pg_Roster => k_is)
    (case hd_Roster => k_is)
    (case po_Roster => k_is)
    (case sa_Roster => k_is)
    (case mk_Roster => k_is)
    (case kc_Roster => k_is)
    (case n_entries => k_is)
    (case e_OutOfRange => k_exc)
    (case e_KnownReferee => k_exc)
    (case e_TooManyReferees => k_exc)
    (case e_UnknownReferee => k_exc)
    (case z_len => k_is)
    (case z_list => k_is)
    (case z_isinstance => k_is)
    (case z_int => k_is)
    (case z_bool => k_is)
    (case z_range => k_is)
    (case z_ValueError => k_is)
    (case ct_BookError => k_is)
    (case cb_BookError => k_is)
    (case ct_UnknownReferee => k_is)
    (case cb_UnknownReferee => k_is)
    (case ga_OutOfRange => k_is)
    (case gk_OutOfRange => k_is)
    (case at_OutOfRange => k_is)
    (case mx_OutOfRange => k_is)
    (case mo_OutOfRange => k_is)
    (case ga_KnownReferee => k_is)
    (case gk_KnownReferee => k_is)
    (case at_KnownReferee => k_is)
    (case mx_KnownReferee => k_is)
    (case mo_KnownReferee => k_is)
    (case ga_TooManyReferees => k_is)
    (case gk_TooManyReferees => k_is)
    (case at_TooManyReferees => k_is)
    (case mx_TooManyReferees => k_is)
    (case mo_TooManyReferees => k_is)
    (case ga_UnknownReferee => k_is)
    (case gk_UnknownReferee => k_is)
    (case at_UnknownReferee => k_is)
    (case mx_UnknownReferee => k_is)
    (case mo_UnknownReferee => k_is)
    (case gt => k_is)
    (case tk => k_is)
    (case m_OutOfRange_BookError => k_is)
    (case k_OutOfRange_OutOfRange => kit_is)
    (case k_OutOfRange_KnownReferee => kit_is)
    (case k_OutOfRange_TooManyReferees => kit_is)
    (case k_OutOfRange_ValueError => kit_is)
    (case m_KnownReferee_BookError => k_is)
    (case k_KnownReferee_OutOfRange => kit_is)
    (case k_KnownReferee_KnownReferee => kit_is)
    (case k_KnownReferee_TooManyReferees => kit_is)
    (case k_KnownReferee_ValueError => kit_is)
    (case m_TooManyReferees_BookError => k_is)
    (case k_TooManyReferees_OutOfRange => kit_is)
    (case k_TooManyReferees_KnownReferee => kit_is)
    (case k_TooManyReferees_TooManyReferees => kit_is)
    (case k_TooManyReferees_ValueError => kit_is)
    (case m_UnknownReferee_BookError => k_is)
    (case m_UnknownReferee_UnknownReferee => k_is)
    (case k_UnknownReferee_OutOfRange => kit_is)
    (case k_UnknownReferee_KnownReferee => kit_is)
    (case k_UnknownReferee_TooManyReferees => kit_is)
    (case k_UnknownReferee_ValueError => kit_is)
    (case g_MOST_NUMBER => k_is)
    (case g_MOST_GRADE => k_is)
    (case g_MOST_CLUB => k_is)
    (case g_MOST_REFEREES => k_is)
    (case b0 => k_is)
    (case l0 => k_is)
    (case c0 => k_is)
    (case k0 => k_is)
    (case b1 => k_is)
    (case i1 => k_is)
    (case l1 => k_is)
    (case c1 => k_is)
    (case k1 => k_is)
    (case b2 => k_is)
    (case i2 => k_is)
    (case l2 => k_is)
    (case c2 => k_is)
    (case k2 => k_is)
    (case b3 => k_is)
    (case i3 => k_is)
    (case l3 => k_is)
    (case c3 => k_is)
    (case k3 => k_is)
    (case b4 => k_is)
    (case i4 => k_is)
    (case l4 => k_is)
    (case c4 => k_is)
    (case k4 => k_is)
    (case b5 => k_is)
    (case i5 => k_is)
    (case l5 => k_is)
    (case c5 => k_is)
    (case k5 => k_is)
    (case b6 => k_is)
    (case i6 => k_is)
    (case l6 => k_is)
    (case c6 => k_is)
    (case k6 => k_is)
    (case b7 => k_is)
    (case i7 => k_is)
    (case l7 => k_is)
    (case c7 => k_is)
    (case k7 => k_is)
    (case b8 => k_is)
    (case i8 => k_is)
    (case l8 => k_is)
    (case c8 => k_is)
    (case k8 => k_is)
    (case b9 => k_is)
    (case i9 => k_is)
    (case l9 => k_is)
    (case c9 => k_is)
    (case k9 => k_is)
    (case b10 => k_is)
    (case l10 => k_is)
    (case c10 => k_is)
    (case k10 => k_is)
    (case b11 => k_is)
    (case l11 => k_is)
    (case c11 => k_is)
    (case k11 => k_is)
    (case b12 => k_is)
    (case l12 => k_is)
    (case c12 => k_is)
    (case k12 => k_is)
    (case b13 => k_is)
    (case l13 => k_is)
    (case c13 => k_is)
    (case k13 => k_is)
    (case b14 => k_is)
    (case l14 => k_is)
    (case c14 => k_is)
    (case k14 => k_is)
    (case b15 => k_is)
    (case l15 => k_is)
    (case c15 => k_is)
    (case k15 => k_is)
    (case b16 => k_is)
    (case l16 => k_is)
    (case c16 => k_is)
    (case k16 => k_is)
    (case b17 => k_is)
    (case l17 => k_is)
    (case c17 => k_is)
    (case k17 => k_is)
    (case b18 => k_is)
    (case l18 => k_is)
    (case c18 => k_is)
    (case k18 => k_is)
    (case b19 => k_is)
    (case l19 => k_is)
    (case c19 => k_is)
    (case k19 => k_is)
    (case b20 => k_is)
    (case l20 => k_is)
    (case c20 => k_is)
    (case k20 => k_is)
    (case b21 => k_is)
    (case l21 => k_is)
    (case c21 => k_is)
    (case k21 => k_is)
#print axioms PySem.Challenge.cw_whistlebook_k06_roster_holds
