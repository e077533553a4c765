import PyProof.Rows.All
import Wide.All
import OpenK.AllK
import Wide.FinOn
import PyProof.EqAt
import PyProof.EqKinds
import PyProof.TupleCall
import KE.BitLaws
import Open.SpecLaws
import KE.OsHead
import KE.OsGo
import PySem.Challenge.RW_flaghoistsdesk_s01_means
set_option Elab.async false
set_option linter.all false
set_option maxRecDepth 100000
namespace L2
open PySem PySem.Spec PyProof.Rows
/-- a key: an int or a str -/
abbrev Key := Sum Int Str
def keyIs : Key → Value → Bool
  | .inl k, v => Value.isInt k v
  | .inr x, v => Value.isStrOf x v
def keyH (w : World) : Key → Int
  | .inl k => hashInt k
  | .inr x => hashStr w x
theorem keyIs_shape : ∀ {k : Key} {v : Value}, keyIs k v = true → (∃ i t, k = Sum.inl i ∧ v = Value.int i t) ∨ (∃ x t, k = Sum.inr x ∧ v = Value.str x t)
  | .inl i, v, h => by
    obtain ⟨t, e⟩ := Value.isInt_shape (k := i) (v := v) h
    exact .inl ⟨i, t, rfl, e⟩
  | .inr x, v, h => by
    obtain ⟨t, e⟩ := Value.isStrOf_shape (x := x) (v := v) h
    exact .inr ⟨x, t, rfl, e⟩
theorem keyIs_int (i : Int) (t : Tok) : keyIs (.inl i) (.int i t) = true := by simp [keyIs, Value.isInt]
theorem keyIs_str (x : Str) (t : Tok) : keyIs (.inr x) (.str x t) = true := by simp [keyIs, Value.isStrOf]
theorem key_ll (a b : Int) : decide ((Sum.inl a : Key) = Sum.inl b) = (a == b) := by
  by_cases e : a = b
  · subst e; simp
  · have h : ¬ (Sum.inl a : Key) = Sum.inl b := fun q => e (Sum.inl.inj q)
    rw [decide_eq_false h]
    exact (beq_eq_false_iff_ne.mpr e).symm
theorem key_rr (a b : Str) : decide ((Sum.inr a : Key) = Sum.inr b) = decide (a = b) := by
  by_cases e : a = b
  · subst e; simp
  · have h : ¬ (Sum.inr a : Key) = Sum.inr b := fun q => e (Sum.inr.inj q)
    rw [decide_eq_false h, decide_eq_false e]
theorem key_lr (a : Int) (b : Str) : decide ((Sum.inl a : Key) = Sum.inr b) = false := decide_eq_false (fun q => nomatch q)
theorem key_rl (a : Str) (b : Int) : decide ((Sum.inr a : Key) = Sum.inl b) = false := decide_eq_false (fun q => nomatch q)
def mixKind (prog : Program) (w : World) : PySem.KeyKind prog w Key where
  is := keyIs
  hash := keyH w
  inj := fun v a b ha hb => by
    rcases keyIs_shape ha with ⟨i, t, rfl, rfl⟩ | ⟨x, t, rfl, rfl⟩
    · rcases keyIs_shape hb with ⟨j, u, rfl, e⟩ | ⟨y, u, rfl, e⟩
      · injection e with e1 _; rw [e1]
      · exact nomatch e
    · rcases keyIs_shape hb with ⟨j, u, rfl, e⟩ | ⟨y, u, rfl, e⟩
      · exact nomatch e
      · injection e with e1 _; rw [e1]
  byValue := fun k v h => by
    rcases keyIs_shape h with ⟨i, t, rfl, rfl⟩ | ⟨x, t, rfl, rfl⟩ <;> rfl
  pyHash := fun hv h => by
    rcases keyIs_shape hv with ⟨i, t, rfl, rfl⟩ | ⟨x, t, rfl, rfl⟩
    · exact wpAny_pyHash_int h
    · exact wpAny_pyHash_str h
  eqBool := fun hu hv h => by
    rcases keyIs_shape hu with ⟨i, t, rfl, rfl⟩ | ⟨x, t, rfl, rfl⟩
    · rcases keyIs_shape hv with ⟨j, u, rfl, rfl⟩ | ⟨y, u, rfl, rfl⟩
      · rw [key_ll] at h; exact wpAny_eqBool_int h
      · rw [key_lr] at h; exact SeqAt.EqAt.int_str i t y u _ _ _ _ h
    · rcases keyIs_shape hv with ⟨j, u, rfl, rfl⟩ | ⟨y, u, rfl, rfl⟩
      · rw [key_rl] at h; exact SeqAt.EqAt.str_int x t j u _ _ _ _ h
      · rw [key_rr] at h; exact wpAny_eqBool_str h
  «strs» := fun k x t v h => by
    rcases keyIs_shape h with ⟨i, u, rfl, e⟩ | ⟨y, u, rfl, e⟩
    · exact nomatch e
    · injection e with e1 _
      subst e1
      cases v <;> rfl
theorem mixKind_int (prog : Program) (w : World) (i : Int) (t : Tok) : (mixKind prog w).is (.inl i) (.int i t) = true := keyIs_int i t
theorem mixKind_str (prog : Program) (w : World) (x : Str) (t : Tok) : (mixKind prog w).is (.inr x) (.str x t) = true := keyIs_str x t
end L2
namespace L2
open PySem PySem.Spec PyProof.Rows
/-- a value, without the heap -/
inductive V where
  | non | bl (b : Bool) | int (i : Int) | str (x : Str) | byt (b : Array UInt8) | flt (b : UInt64) | ref (a : Addr) | ty (n : String)
  deriving DecidableEq
def RelV : V → Value → Prop
  | .non, u => u = Value.none
  | .bl b, u => u = Value.bool b
  | .int i, u => ∃ t, u = Value.int i t
  | .str x, u => ∃ t, u = Value.str x t
  | .byt b, u => ∃ t, u = Value.bytes b t
  | .flt b, u => ∃ t, u = Value.float b t
  | .ref a, u => u = Value.ref a
  | .ty n, u => u = Value.type n
abbrev Vals : List V → List Value → Prop := Paired RelV
theorem Vals.length {xs : List V} {us : List Value} (r : Vals xs us) : xs.length = us.length := Paired.length r
theorem Vals.get : ∀ {xs : List V} {us : List Value} {i : Nat} {x : V}, Vals xs us → xs[i]? = some x → ∃ u, us[i]? = some u ∧ RelV x u
  | _, _, _, _, .nil, e => by simp at e
  | _, _, 0, _, .cons r _, e => by simp at e; subst e; exact ⟨_, rfl, r⟩
  | _, _, i + 1, x, .cons _ t, e => by
    obtain ⟨u, h1, h2⟩ := Vals.get (i := i) (x := x) t (by simpa using e)
    exact ⟨u, by simpa using h1, h2⟩
theorem Vals.set {x : V} {u : Value} (r : RelV x u) : ∀ {xs : List V} {us : List Value} (i : Nat), Vals xs us → Vals (xs.set i x) (us.set i u)
  | _, _, _, .nil => .nil
  | _, _, 0, .cons _ t => .cons r t
  | _, _, i + 1, .cons q t => .cons q (Vals.set r i t)
theorem Vals.append : ∀ {xs ys : List V} {us ws : List Value}, Vals xs us → Vals ys ws → Vals (xs ++ ys) (us ++ ws)
  | _, _, _, _, .nil, s => s
  | _, _, _, _, .cons r t, s => .cons r (Vals.append t s)
theorem Vals.take : ∀ {xs : List V} {us : List Value} (n : Nat), Vals xs us → Vals (xs.take n) (us.take n)
  | _, _, 0, _ => .nil
  | _, _, _ + 1, .nil => .nil
  | _, _, n + 1, .cons r t => .cons r (Vals.take n t)
theorem Vals.drop : ∀ {xs : List V} {us : List Value} (n : Nat), Vals xs us → Vals (xs.drop n) (us.drop n)
  | _, _, 0, r => r
  | _, _, _ + 1, .nil => .nil
  | _, _, n + 1, .cons _ t => Vals.drop n t
def RelO : Option V → Option Value → Prop
  | some v, some u => RelV v u
  | none, none => True
  | _, _ => False
def KV {κ : Type} : List (κ × V) → List (κ × Value) → Prop := Paired fun (p : κ × V) (q : κ × Value) => p.1 = q.1 ∧ RelV p.2 q.2
/-- a key of a dict (00_mix): an int or a text -/
def kV : Key → V
  | .inl i => .int i
  | .inr x => .str x
/-- what stands at a tracked address -/
inductive HO where
  /-- a list -/
  | lst (xs : List V)
  /-- a tuple (never changes) -/
  | tup (xs : List V)
  /-- a dict whose keys are ints and texts; one whose keys are tuples of ints and texts (the empty one is both) -/
  | dK (kvs : List (Key × V)) | dT (kvs : List (List Key × V))
  /-- a set of ints: its members, its size -/
  | set (S : Int → Bool) (n : Nat)
  /-- an instance of the class at C, its dict at dx, its attributes -/
  | ins (C dx : Addr) (fs : List (Str × V))
  /-- the dict of the instance at x -/
  | own (x : Addr)
  /-- the dict of an exception -/
  | xd (fs : List (Str × V))
  /-- a bound method, f of x -/
  | met (f x : Addr)
  /-- a range object lo, lo + 1, .. below hi -/
  | rng (lo hi : Int)
  /-- a thing that is known to the object (the script; a dict while a loop walks it): read, never written while it is so -/
  | frz (o : Obj) (u : HO)
  /-- a code object's table -/
  | tbl (ps : Array Value)
  /-- any other thing, by what is true of its one object (a def of one's own: SetO a S n := HO.ext fun h => ..) -/
  | ext (φ : Heap → Prop)
abbrev Hp := Addr → Option HO
def upd (H : Hp) (a : Addr) (o : HO) : Hp := fun b => if b = a then some o else H b
theorem upd_same {H : Hp} {a : Addr} {o : HO} : upd H a o a = some o := by unfold upd; rw [if_pos rfl]
theorem upd_ne {H : Hp} {a b : Addr} {o : HO} (h : b ≠ a) : upd H a o b = H b := by unfold upd; rw [if_neg h]
/-- two objects of different content stand apart -/
theorem ne_of {H : Hp} {a b : Addr} {o u : HO} (h : H a = some o) (h' : H b = some u) (d : o ≠ u) : a ≠ b := by
  intro e; subst e; rw [h] at h'; exact d (Option.some.inj h')
theorem ne_of_none {H : Hp} {a b : Addr} {o : HO} (h : H a = some o) (h' : H b = none) : a ≠ b := by
  intro e; subst e; rw [h] at h'; cases h'
section
variable (P : Program) (w : World)
def ObjOk (H : Hp) (h : Heap) (a : Addr) : HO → Prop
  | .lst xs => xs.length ≤ sizeLine ∧ ∃ (its : List Value) (n : Nat), Vals xs its ∧ h.get? a = some { cls := .type "list", data := .seq its.toArray n }
  | .tup xs => xs.length ≤ sizeLine ∧ ∃ its : List Value, Vals xs its ∧ IsTup h a its.toArray
  | .dK kvs => kvs.length ≤ sizeLine ∧ (a == sysModules) = false ∧ ∃ vs, KV kvs vs ∧ h.DictOf (mixKind P w) a vs
  | .dT kvs => kvs.length ≤ sizeLine ∧ (a == sysModules) = false ∧ ∃ xs : List (List Key × Addr × Value),
      Paired (fun (p : List Key × V) (q : List Key × Addr × Value) => p.1 = q.1 ∧ H q.2.1 = some (.tup (p.1.map kV)) ∧ RelV p.2 q.2.2) kvs xs ∧
      ∃ o es ep, h.get? a = some o ∧ o.ExactDict ∧ o.data = .dict es ep ∧ es.toList = xs.map (entryOfKey (tupleKind (mixKind P w))) ∧ (xs.map (·.1)).Nodup
  | .set S n => h.SetOf (intKind P w) a S n
  | .ins C dx fs => H dx = some (.own a) ∧ fs.length ≤ 1000 ∧ dx ≠ a ∧ h.get? a = some (PySem.W.instObj C dx) ∧
      ∃ mA, h.Ns1 dx mA ∧ (∀ f, RelO (fs.lookup f) (mA f)) ∧ PySem.Within mA (fs.map (·.1))
  | .own _ => ∃ o, h.get? a = some o
  | .xd fs => ∃ mA, h.Ns1 a mA ∧ ∀ f, RelO (fs.lookup f) (mA f)
  | .rng lo hi => ∃ t u v, h.get? a = some { cls := .type "range", data := .fields #[.int lo t, .int hi u, .int 1 v] }
  | .frz o u => h.get? a = some o ∧ ObjOk H h a u
  | .tbl ps => h.get? a = some { cls := .none, data := .fields ps }
  | .met f x => h.get? a = some (PySem.W.methodObj (.ref f) (.ref x))
  | .ext φ => φ h ∧ (∃ o, h.get? a = some o) ∧ ∀ h1 h2 : Heap, φ h1 → (∀ o, h1.get? a = some o → h2.get? a = some o) → φ h2
/-- the abstract heap is held -/
def HOk (H : Hp) (h : Heap) : Prop := ∀ a o, H a = some o → ObjOk P w H h a o
end
section
variable {P : Program} {w : World} {H H' : Hp} {h h' : Heap} {a : Addr} {o : HO}
theorem ObjOk.lt (x : ObjOk P w H h a o) : a < h.objs.size := by
  cases o with
  | lst xs => obtain ⟨_, _, _, _, e⟩ := x; exact Heap.lt_size e
  | tup xs => obtain ⟨_, _, _, p⟩ := x; exact p.lt
  | dK kvs => obtain ⟨_, _, _, _, o, _, _, e, _⟩ := x; exact Heap.lt_size e
  | dT kvs => obtain ⟨_, _, _, _, o, _, _, e, _⟩ := x; exact Heap.lt_size e
  | set S n => obtain ⟨o, _, _, _, e, _⟩ := x; exact Heap.lt_size e
  | ins C dx fs => obtain ⟨_, _, _, e, _⟩ := x; exact Heap.lt_size e
  | own y => obtain ⟨_, e⟩ := x; exact Heap.lt_size e
  | xd fs => obtain ⟨_, ⟨_, _, _, e, _⟩, _⟩ := x; exact Heap.lt_size e
  | rng lo hi => obtain ⟨_, _, _, e⟩ := x; exact Heap.lt_size e
  | frz ob u => obtain ⟨e, _⟩ := x; exact Heap.lt_size e
  | tbl ps => exact Heap.lt_size (show h.get? a = some _ from x)
  | met f y => exact Heap.lt_size (show h.get? a = some _ from x)
  | ext φ => obtain ⟨_, ⟨_, e⟩, _⟩ := x; exact Heap.lt_size e
theorem Paired.mapP {α β : Type} {F G : α → β → Prop} : ∀ {l₁ : List α} {l₂ : List β}, Paired F l₁ l₂ → (∀ a b, F a b → G a b) → Paired G l₁ l₂
  | _, _, .nil, _ => .nil
  | _, _, .cons r t, f => .cons (f _ _ r) (Paired.mapP t f)
/-- what an object's description leans on: its own object, its own dict, the tuples -/
theorem ObjOk.stay (x : ObjOk P w H h a o) (k : ∀ b u, (b = a ∨ H b = some (.own a)) → h.get? b = some u → h'.get? b = some u)
    (ho : ∀ b, H b = some (.own a) → H' b = some (.own a)) (ht : ∀ b xs, H b = some (.tup xs) → H' b = some (.tup xs)) : ObjOk P w H' h' a o := by
  induction o with
  | lst xs => obtain ⟨z, its, n, r, e⟩ := x; exact ⟨z, its, n, r, k _ _ (.inl rfl) e⟩
  | tup xs => obtain ⟨z, its, r, ob, e, c⟩ := x; exact ⟨z, its, r, ob, k _ _ (.inl rfl) e, c⟩
  | dK kvs => obtain ⟨z, y, vs, r, ob, es, ep, e, c⟩ := x; exact ⟨z, y, vs, r, ob, es, ep, k _ _ (.inl rfl) e, c⟩
  | dT kvs =>
    obtain ⟨z, y, xs, r, ob, es, ep, e, c⟩ := x
    exact ⟨z, y, xs, Paired.mapP r fun p q z => ⟨z.1, ht _ _ z.2.1, z.2.2⟩, ob, es, ep, k _ _ (.inl rfl) e, c⟩
  | set S n => obtain ⟨ob, es, ep, t, e, c⟩ := x; exact ⟨ob, es, ep, t, k _ _ (.inl rfl) e, c⟩
  | ins C dx fs =>
    obtain ⟨d, z, ne, e, mA, ⟨od, es, ep, e2, c⟩, r⟩ := x
    exact ⟨ho _ d, z, ne, k _ _ (.inl rfl) e, mA, ⟨od, es, ep, k _ _ (.inr d) e2, c⟩, r⟩
  | own y => obtain ⟨ob, e⟩ := x; exact ⟨ob, k _ _ (.inl rfl) e⟩
  | xd fs => obtain ⟨mA, ⟨od, es, ep, e, c⟩, r⟩ := x; exact ⟨mA, ⟨od, es, ep, k _ _ (.inl rfl) e, c⟩, r⟩
  | rng lo hi => obtain ⟨t, u, v, e⟩ := x; exact ⟨t, u, v, k _ _ (.inl rfl) e⟩
  | frz ob u ih => obtain ⟨e, q⟩ := x; exact ⟨k _ _ (.inl rfl) e, ih q⟩
  | tbl ps =>
    have e : h.get? a = some { cls := .none, data := .fields ps } := x
    show h'.get? a = some { cls := .none, data := .fields ps }
    exact k a _ (.inl rfl) e
  | met f y =>
    have e : h.get? a = some (PySem.W.methodObj (.ref f) (.ref y)) := x
    show h'.get? a = some (PySem.W.methodObj (.ref f) (.ref y))
    exact k a _ (.inl rfl) e
  | ext φ => obtain ⟨p, ⟨o, e⟩, st⟩ := x; exact ⟨st _ _ p fun o q => k _ _ (.inl rfl) q, ⟨o, k _ _ (.inl rfl) e⟩, st⟩
theorem HOk.lt (x : HOk P w H h) (e : H a = some o) : a < h.objs.size := (x a o e).lt
theorem HOk.fresh (x : HOk P w H h) (e : h.objs.size ≤ a) : H a = none := by
  cases q : H a with
  | none => rfl
  | some u => exact absurd (Nat.lt_of_lt_of_le (x.lt q) e) (Nat.lt_irrefl _)
/-- every object of the heap is kept -/
theorem HOk.kept (x : HOk P w H h) (k : ∀ b u, h.get? b = some u → h'.get? b = some u) : HOk P w H h' := fun a o e =>
  (x a o e).stay (fun b u _ q => k b u q) (fun _ q => q) fun _ _ q => q
/-- a new object is laid and tracked -/
theorem HOk.laid (x : HOk P w H h) (k : ∀ b u, h.get? b = some u → h'.get? b = some u) (hp : h.objs.size ≤ a) (new : ObjOk P w (upd H a o) h' a o) : HOk P w (upd H a o) h' := fun b u e => by
  have hn := x.fresh hp
  by_cases hb : b = a
  · subst hb; rw [upd_same] at e; cases e; exact new
  · rw [upd_ne hb] at e
    exact (x b u e).stay (fun c v _ q => k c v q) (fun c q => by rw [upd_ne (ne_of_none q hn)]; exact q) fun c xs q => by rw [upd_ne (ne_of_none q hn)]; exact q
end
/-- what may be read as u: it is u, or a known u -/
def Rd (H : Hp) (a : Addr) (u : HO) : Prop := H a = some u ∨ ∃ o, H a = some (.frz o u)
theorem Rd.ok {P : Program} {w : World} {H : Hp} {h : Heap} {a : Addr} {u : HO} (r : Rd H a u) (x : HOk P w H h) : ObjOk P w H h a u := by
  rcases r with r | ⟨o, r⟩
  · exact x a u r
  · obtain ⟨_, q⟩ := x a _ r
    exact q
/-- what may be written -/
def Mut : Option HO → Prop
  | some (.lst _) => True
  | some (.dK _) => True
  | some (.dT _) => True
  | some (.set _ _) => True
  | some (.ins _ _ _) => True
  | some (.ext _) => True
  | _ => False
section
variable {P : Program} {w : World} {H : Hp} {h h' : Heap} {x e : Addr} {o' : HO}
/-- the object at e is changed: x itself, or the dict of the instance x -/
theorem HOk.write (ok : HOk P w H h) (mu : Mut (H x)) (he : e = x ∨ H e = some (.own x)) (k : ∀ b u, b ≠ e → h.get? b = some u → h'.get? b = some u) (heo : ∃ u, h'.get? e = some u)
    (new : ObjOk P w (upd H x o') h' x o') : HOk P w (upd H x o') h' := fun b u q => by
  have nown : ∀ c y, H c = some (.own y) → c ≠ x := fun c y r z => by subst z; rw [r] at mu; exact mu
  have ntup : ∀ c xs, H c = some (.tup xs) → c ≠ x := fun c xs r z => by subst z; rw [r] at mu; exact mu
  by_cases hb : b = x
  · subst hb; rw [upd_same] at q; cases q; exact new
  · rw [upd_ne hb] at q
    by_cases hbe : b = e
    · have q' : H b = some (.own x) := by
        rcases he with z | z
        · exact absurd (hbe.trans z) hb
        · rw [hbe]; exact z
      rw [q] at q'; cases q'
      obtain ⟨v, hv⟩ := heo
      exact ⟨v, by rw [hbe]; exact hv⟩
    · refine (ok b u q).stay (fun c v hc r => k c v ?_ r) (fun c r => by rw [upd_ne (nown c b r)]; exact r) fun c xs r => by rw [upd_ne (ntup c xs r)]; exact r
      rcases hc with rfl | hc
      · exact hbe
      · rintro rfl
        rcases he with z | z
        · exact nown c b hc z
        · rw [hc] at z; cases z; exact hb rfl
end
structure Un (fs ex : List Addr) (H H' : Hp) (h h' : Heap) : Prop where
  keep : ∀ b o, h.get? b = some o → H b = none → b ∉ fs → b ∉ ex → h'.get? b = some o
  slot : ∀ b o, h.get? b = some o → H b = none → b ∈ fs → b ∉ ex → ∃ sl, h'.get? b = some { o with slots := sl }
  free : ∀ b o, h.get? b = some o → H b = none → b ∉ ex → H' b = none
  there : ∀ b o, h.get? b = some o → b ∉ ex → ∃ o', h'.get? b = some o'
  tups : ∀ b xs, H b = some (.tup xs) → H' b = some (.tup xs)
  frzs : ∀ b o u, H b = some (.frz o u) → H' b = some (.frz o u)
  tbls : ∀ b ps, H b = some (.tbl ps) → ∃ more, H' b = some (.tbl (ps ++ more))
section
variable {fs fs' ex ex' : List Addr} {H H1 H2 : Hp} {h h1 h2 h' : Heap} {a x e : Addr} {o : HO}
theorem Un.any (u : Un fs ex H H1 h h1) {b : Addr} {ob : Obj} (q : h.get? b = some ob) (n : H b = none) (hx : b ∉ ex) : ∃ sl, h1.get? b = some { ob with slots := sl } := by
  by_cases hb : b ∈ fs
  · exact u.slot b ob q n hb hx
  · exact ⟨ob.slots, u.keep b ob q n hb hx⟩
theorem Un.kept (k : ∀ b u, h.get? b = some u → h'.get? b = some u) : Un fs ex H H h h' :=
  ⟨fun b ob q _ _ _ => k b ob q, fun b ob q _ _ _ => ⟨ob.slots, k b ob q⟩, fun _ _ _ n _ => n, fun b ob q _ => ⟨ob, k b ob q⟩, fun _ _ q => q, fun _ _ _ q => q, fun _ ps q => ⟨#[], by rw [q]; simp⟩⟩
theorem Un.refl : Un fs ex H H h h := Un.kept fun _ _ q => q
theorem Un.laid (k : ∀ b u, h.get? b = some u → h'.get? b = some u) (hp : h.objs.size ≤ a) (hn : H a = none) : Un fs ex H (upd H a o) h h' where
  keep := fun b u q _ _ _ => k b u q
  slot := fun b u q _ _ _ => ⟨u.slots, k b u q⟩
  free := fun b u q n _ => by rw [upd_ne (Nat.ne_of_lt (Nat.lt_of_lt_of_le (Heap.lt_size q) hp))]; exact n
  there := fun b u q _ => ⟨u, k b u q⟩
  tups := fun b xs q => by rw [upd_ne (ne_of_none q hn)]; exact q
  frzs := fun b u xs q => by rw [upd_ne (ne_of_none q hn)]; exact q
  tbls := fun b ps q => ⟨#[], by rw [upd_ne (ne_of_none q hn), q]; simp⟩
theorem Un.write (mu : Mut (H x)) (he : e = x ∨ H e = some (.own x)) (k : ∀ b u, b ≠ e → h.get? b = some u → h'.get? b = some u) (heo : ∃ u, h'.get? e = some u) : Un fs ex H (upd H x o) h h' := by
  have hx : ∀ b, H b = none → b ≠ x := fun b n z => by subst z; rw [n] at mu; exact mu
  have hb : ∀ b, H b = none → b ≠ e := fun b n z => by
    subst z
    rcases he with r | r
    · exact hx b n r
    · rw [n] at r; cases r
  have hm : ∀ b u, H b = some u → ¬ Mut (some u) → b ≠ x := fun b u q nm z => by subst z; rw [q] at mu; exact nm mu
  refine ⟨fun b u q n _ _ => k b u (hb b n) q, fun b u q n _ _ => ⟨u.slots, k b u (hb b n) q⟩, fun b u q n _ => by rw [upd_ne (hx b n)]; exact n, fun b u q _ => ?_,
    fun b xs q => by rw [upd_ne (hm b _ q fun z => z)]; exact q, fun b u xs q => by rw [upd_ne (hm b _ q fun z => z)]; exact q, fun b ps q => ⟨#[], by rw [upd_ne (hm b _ q fun z => z), q]; simp⟩⟩
  by_cases hbe : b = e
  · subst hbe; exact heo
  · exact ⟨u, k b u hbe q⟩
end
def trk (h : Heap) (H : Hp) : List Addr := (List.range h.objs.size).filter fun a => (H a).isSome
def hidT (h : Heap) (H : Hp) : Heap := PySem.W.hideAll h (trk h H)
theorem hidT_size (h : Heap) (H : Hp) : (hidT h H).objs.size = h.objs.size := PySem.W.hideAll_size _ _
theorem hidT_get {h : Heap} {H : Hp} {b : Addr} {o : Obj} (e : h.get? b = some o) (n : H b = none) : (hidT h H).get? b = some o :=
  PySem.W.hideAll_get _ e fun hm => by
    have q : (H b).isSome = true := (List.mem_filter.mp hm).2
    rw [n] at q; simp at q
theorem of_hidT {h : Heap} {H : Hp} {b : Addr} {o : Obj} (e : (hidT h H).get? b = some o) : h.get? b = some o ∧ H b = none := by
  have e' : h.get? b = some o := PySem.W.of_hideAll (trk h H) e
  refine ⟨e', ?_⟩
  cases q : H b with
  | none => rfl
  | some x =>
    have hm : b ∈ trk h H := List.mem_filter.mpr ⟨List.mem_range.mpr (Heap.lt_size e'), by simp [q]⟩
    have z : (hidT h H).get? b = none := PySem.W.hideAll_none (trk h H) hm
    rw [z] at e; cases e
end L2
namespace L2
open PySem PySem.Spec PyProof.Rows
/-- the module's facts, over the base: the heap at the law's entry without what is tracked there -/
structure Mod (K : PySem.W.Frag) (mg : Str → Option Value) (base : Heap) : Prop where
  kin : K.In base
  glob : base.Ns mainGlobals mg
  blt : ∃ mb, base.Ns builtinsNs mb ∧ ∀ x : Str, x ≠ "__name__" → mb x = bootBuiltins x
  nolimit : base.NoLimit
/-- the context: a def's body (or a comprehension's block) running. base: fixed through the whole law; s₀, H₀: the entry; outer: the frames whose slots others may change (a def's callers); stack: all frames that run;
   ex: iterators that were made ahead of the entry and are walked here (a comprehension's); fn: the names whose cells were made at the entry (a def: all; a comprehension's block: its own); calm: not within an except suite; pn: pins that every state bears; xe: what is wanted of an exception that leaves the code -/
structure Cx where
  prog : Program
  w : World
  K : PySem.W.Frag
  mg : Str → Option Value
  base : Heap
  A : Around
  N : List Str
  s_0 : Shared
  H_0 : Hp
  env : Env
  outer : List Env
  stack : List Env
  ex : List Addr
  fn : Str → Bool
  calm : Bool
  pn : List (Addr × Obj)
  xe : Value → Shared → Prop
/-- the callers' frames -/
def frs (l : List Env) : List Addr := l.filterMap (·.frame)
abbrev Cx.fs (X : Cx) : List Addr := frs X.outer
def Vis (sc : Scope) (x : Str) : Prop := sc.names.lookup x = some .local ∨ sc.names.lookup x = some .cell ∨ sc.names.lookup x = some .free
def Loc (sc : Scope) (x : Str) : Prop := sc.names.lookup x = some .local ∨ sc.names.lookup x = some .cell
def Look (env : Env) (h : Heap) (m : Str → Option Value) (x : Str) (u : Value) : Prop :=
  (env.kindOf x = some .local ∧ m x = some u) ∨ ((env.kindOf x = some .cell ∨ env.kindOf x = some .free) ∧ ∃ c, env.cells.lookup x = some c ∧ h.IsCell c (some u))
structure Cx.Ok (X : Cx) : Prop where
  mod : Mod X.K X.mg X.base
  kind : X.env.scope.kind = .function
  glob : X.env.globals = mainGlobals
  blt : X.env.builtins = builtinsNs
  above : X.s_0.heap.objs.size ≤ X.env.locals
  inj : ∀ x y c, X.env.cells.lookup x = some c → X.env.cells.lookup y = some c → x = y
  has : ∀ x, (X.env.kindOf x = some .cell ∨ X.env.kindOf x = some .free) → ∃ c, X.env.cells.lookup x = some c
  cab : ∀ x c, X.fn x = true → X.env.cells.lookup x = some c → X.s_0.heap.objs.size ≤ c
  hd : X.calm = true → X.A.handled = none
  frames : X.A.frames = some X.stack
  stk : X.stack = X.outer ∨ (X.stack = X.env :: X.outer ∧ X.env.frame = some X.env.locals)
  exf : ∀ b ∈ X.ex, b ≠ X.env.locals ∧ ∀ x c, X.env.cells.lookup x = some c → c ≠ b
  bs : ∀ b o, X.base.get? b = some o → X.s_0.heap.get? b = some o ∧ X.H_0 b = none
  bsz : X.base.objs.size ≤ X.s_0.heap.objs.size
  noex : ∀ b o, X.base.get? b = some o → b ∉ X.ex
  exfs : ∀ b ∈ X.ex, b ∉ X.fs
  funs : X.s_0.heap.FunFrames X.base X.outer
  frf : ∀ b ∈ X.fs, X.H_0 b = none
structure Inv (X : Cx) (pins : List (Addr × Obj)) (σ : List (Option V)) (H : Hp) (s : Shared) : Prop where
  ok : X.Ok
  os : s.os = X.s_0.os
  bare : AllBare s.gens
  base : Un X.fs X.ex X.H_0 H X.s_0.heap s.heap
  loc : ∃ m, s.heap.Ns X.env.locals m ∧ ∀ (i : Nat) (x : Str) (v : V), X.N[i]? = some x → σ[i]? = some (some v) → Vis X.env.scope x → ∃ u, RelV v u ∧ Look X.env s.heap m x u
  cell : ∀ x c, X.env.cells.lookup x = some c → ∃ v, s.heap.IsCell c v
  free : H X.env.locals = none
  freeC : ∀ x c, X.env.cells.lookup x = some c → H c = none
  pin : ∀ p ∈ X.pn ++ pins, s.heap.get? p.1 = some p.2 ∧ H p.1 = none ∧ p.1 ≠ X.env.locals ∧ p.1 ∉ X.fs ∧ ∀ v, p.2.data ≠ .cell v
  hok : HOk X.prog X.w H s.heap
  len : σ.length = X.N.length
section
variable {X : Cx} {pins : List (Addr × Obj)} {σ : List (Option V)} {H H' : Hp} {s : Shared} {h' : Heap}
theorem Cx.Ok.nofr (ok : X.Ok) {b : Addr} {o : Obj} (e : X.base.get? b = some o) : b ∉ X.fs := fun hb => by
  have := (ok.funs.mem hb).1
  rw [e] at this; cases this
theorem Inv.bs (I : Inv X pins σ H s) : ∀ b o, X.base.get? b = some o → s.heap.get? b = some o ∧ H b = none := fun b o e =>
  ⟨I.base.keep b o (I.ok.bs b o e).1 (I.ok.bs b o e).2 (I.ok.nofr e) (I.ok.noex b o e), I.base.free b o (I.ok.bs b o e).1 (I.ok.bs b o e).2 (I.ok.noex b o e)⟩
theorem Inv.bk (I : Inv X pins σ H s) : ∀ b o, X.base.get? b = some o → s.heap.get? b = some o := fun b o e => (I.bs b o e).1
theorem Inv.mod (I : Inv X pins σ H s) : Mod X.K X.mg X.base := I.ok.mod
theorem Inv.kIn (I : Inv X pins σ H s) : X.K.In s.heap := I.ok.mod.kin.keeps I.bk
theorem Inv.lt (I : Inv X pins σ H s) : X.env.locals < s.heap.objs.size := let ⟨_, hn, _⟩ := I.loc; hn.lt
theorem Inv.sz (I : Inv X pins σ H s) : X.s_0.heap.objs.size ≤ s.heap.objs.size := Nat.le_trans I.ok.above (Nat.le_of_lt I.lt)
theorem Inv.nofs (I : Inv X pins σ H s) {a : Addr} (h : s.heap.objs.size ≤ a) : a ∉ X.fs := fun hb => by
  obtain ⟨_, o, ho, _⟩ := I.ok.funs.mem hb
  exact absurd (Nat.lt_of_lt_of_le (Heap.lt_size ho) (Nat.le_trans I.sz h)) (Nat.lt_irrefl _)
theorem Inv.cne (I : Inv X pins σ H s) : ∀ x c, X.env.cells.lookup x = some c → c ≠ X.env.locals := fun x c e z => by
  obtain ⟨v, o, ho, hd⟩ := I.cell x c e
  obtain ⟨m, ⟨o', es, ep, ho', hd', _⟩, _⟩ := I.loc
  rw [z, ho'] at ho; cases ho; rw [hd'] at hd; cases hd
theorem Inv.funs (I : Inv X pins σ H s) : s.heap.FunFrames X.base X.outer := by
  have all : ∀ (l : List Env), (∀ b ∈ frs l, b ∈ X.fs) → X.s_0.heap.FunFrames X.base l → s.heap.FunFrames X.base l := by
    intro l
    induction l with
    | nil => intro _ _; trivial
    | cons env r ih =>
      intro hs hl
      obtain ⟨hk, ⟨L, o, hf, hn, ho, hd⟩, hr⟩ := hl
      have hL : L ∈ X.fs := hs L (by unfold frs; rw [List.filterMap_cons, hf]; exact List.mem_cons_self)
      obtain ⟨sl, e⟩ := I.base.slot L o ho (I.ok.frf L hL) hL fun z => I.ok.exfs L z hL
      exact ⟨hk, ⟨L, _, hf, hn, e, hd⟩, ih (fun b hb => hs b (by unfold frs; rw [List.filterMap_cons, hf]; exact List.mem_cons_of_mem _ hb)) hr⟩
  exact all X.outer (fun _ hb => hb) I.ok.funs
/-- the frames that run, for a call -/
theorem Inv.stack (I : Inv X pins σ H s) : s.heap.FunFrames X.base X.stack := by
  rcases I.ok.stk with e | ⟨e, hf⟩
  · rw [e]; exact I.funs
  · rw [e]
    obtain ⟨m, hn, _⟩ := I.loc
    refine .cons (by rw [I.ok.kind]; decide) hf hn ?_ I.funs
    exact Heap.get?_none_of_le (Nat.le_trans I.ok.bsz I.ok.above)
theorem Inv.stkSub (I : Inv X pins σ H s) : ∀ b ∈ frs X.stack, b ∈ X.env.locals :: X.fs := fun b hb => by
  rcases I.ok.stk with e | ⟨e, hf⟩
  · rw [e] at hb; exact List.mem_cons_of_mem _ hb
  · rw [e] at hb
    unfold frs at hb
    rw [List.filterMap_cons, hf] at hb
    exact hb
theorem Inv.stkFree (I : Inv X pins σ H s) : ∀ b ∈ frs X.stack, H b = none := fun b hb => by
  rcases List.mem_cons.mp (I.stkSub b hb) with e | hb
  · rw [e]; exact I.free
  · obtain ⟨_, o, ho, _⟩ := I.ok.funs.mem hb
    exact I.base.free b o ho (I.ok.frf b hb) fun z => I.ok.exfs b z hb
/-- THE STEP: the untracked objects but the frame and the records at ch are kept (the callers' frames up to slots), the frame's map is kept, the new abstract heap is held -/
theorem Inv.step {g' : Array GenState} {t' : Nat} {d' : Drawn} {ch : List Addr} (I : Inv X pins σ H s)
    (hch : ∀ b ∈ ch, (b ∈ X.ex ∨ X.s_0.heap.objs.size ≤ b) ∧ b ≠ X.env.locals ∧ (∀ x c, X.env.cells.lookup x = some c → c ≠ b) ∧ ∀ p ∈ X.pn ++ pins, p.1 ≠ b)
    (keep : ∀ b o, b ≠ X.env.locals → b ∉ X.fs → b ∉ ch → s.heap.get? b = some o → H b = none → h'.get? b = some o)
    (slot : ∀ b o, b ≠ X.env.locals → b ∈ X.fs → b ∉ ch → s.heap.get? b = some o → H b = none → ∃ sl, h'.get? b = some { o with slots := sl }) (free : ∀ b o, b ∉ ch → s.heap.get? b = some o → H b = none → H' b = none)
    (there : ∀ b o, b ∉ ch → s.heap.get? b = some o → ∃ o', h'.get? b = some o')
    (tups : ∀ b xs, H b = some (.tup xs) → H' b = some (.tup xs)) (frzs : ∀ b o u, H b = some (.frz o u) → H' b = some (.frz o u)) (tbls : ∀ b ps, H b = some (.tbl ps) → ∃ more, H' b = some (.tbl (ps ++ more)))
    (ns : ∀ m, s.heap.Ns X.env.locals m → h'.Ns X.env.locals m) (hok : HOk X.prog X.w H' h') (hg : AllBare g') :
    Inv X pins σ H' { s with heap := h', gens := g', drawn := d', toks := t' } := by
  have neL : ∀ b o, X.s_0.heap.get? b = some o → b ≠ X.env.locals := fun b o e => Nat.ne_of_lt (Nat.lt_of_lt_of_le (Heap.lt_size e) I.ok.above)
  have neC : ∀ b o, X.s_0.heap.get? b = some o → b ∉ X.ex → b ∉ ch := fun b o e hx hb => by
    rcases (hch b hb).1 with z | z
    · exact hx z
    · exact absurd (Nat.lt_of_lt_of_le (Heap.lt_size e) z) (Nat.lt_irrefl _)
  have cellK : ∀ x c, X.env.cells.lookup x = some c → ∀ v, s.heap.IsCell c v → h'.IsCell c v := fun x c e v ⟨o, ho, hd⟩ => by
    have nch : c ∉ ch := fun z => (hch c z).2.2.1 x c e rfl
    by_cases hc : c ∈ X.fs
    · obtain ⟨sl, q⟩ := slot c o (I.cne x c e) hc nch ho (I.freeC x c e)
      exact ⟨_, q, hd⟩
    · exact ⟨o, keep c o (I.cne x c e) hc nch ho (I.freeC x c e), hd⟩
  refine ⟨I.ok, I.os, hg, ⟨fun b o e n hb hx => ?_, fun b o e n hb hx => ?_, fun b o e n hx => ?_, fun b o e hx => ?_, fun b xs e => tups b xs (I.base.tups b xs e), fun b o xs e => frzs b o xs (I.base.frzs b o xs e), fun b ps e => ?_⟩, ?_, fun x c e => ?_, ?_, fun x c e => ?_, fun p hp => ?_, hok, I.len⟩
  · exact keep b o (neL b o e) hb (neC b o e hx) (I.base.keep b o e n hb hx) (I.base.free b o e n hx)
  · obtain ⟨sl, e1⟩ := I.base.slot b o e n hb hx
    obtain ⟨sl', e2⟩ := slot b _ (neL b o e) hb (neC b o e hx) e1 (I.base.free b o e n hx)
    exact ⟨sl', e2⟩
  · obtain ⟨o', e1⟩ := I.base.there b o e hx
    exact free b o' (neC b o e hx) e1 (I.base.free b o e n hx)
  · obtain ⟨o', e1⟩ := I.base.there b o e hx
    exact there b o' (neC b o e hx) e1
  · obtain ⟨m1, e1⟩ := I.base.tbls b ps e
    obtain ⟨m2, e2⟩ := tbls b _ e1
    exact ⟨m1 ++ m2, by rw [e2, Array.append_assoc]⟩
  · obtain ⟨m, hn, hl⟩ := I.loc
    refine ⟨m, ns m hn, fun i x v e1 e2 e3 => ?_⟩
    obtain ⟨u, r, l⟩ := hl i x v e1 e2 e3
    refine ⟨u, r, ?_⟩
    rcases l with l | ⟨k, c, e, z⟩
    · exact .inl l
    · exact .inr ⟨k, c, e, cellK x c e _ z⟩
  · obtain ⟨v, z⟩ := I.cell x c e
    exact ⟨v, cellK x c e v z⟩
  · obtain ⟨m, ⟨o, _, _, ho, _⟩, _⟩ := I.loc
    exact free _ o (fun z => (hch _ z).2.1 rfl) ho I.free
  · obtain ⟨v, o, ho, hd⟩ := I.cell x c e
    exact free c o (fun z => (hch c z).2.2.1 x c e rfl) ho (I.freeC x c e)
  · obtain ⟨e, n, ne, nf, d⟩ := I.pin p hp
    have nch : p.1 ∉ ch := fun z => (hch p.1 z).2.2.2 p hp rfl
    exact ⟨keep p.1 p.2 ne nf nch e n, free p.1 p.2 nch e n, ne, nf, d⟩
/-- .. where the frame's own object is kept too -/
theorem Inv.un {t' : Nat} (I : Inv X pins σ H s) (u : Un X.fs [] H H' s.heap h') (hok : HOk X.prog X.w H' h') : Inv X pins σ H' { s with heap := h', toks := t' } := by
  obtain ⟨m, ⟨o, es, ep, ho, r⟩, _⟩ := id I.loc
  obtain ⟨sl, hL⟩ := u.any ho I.free (by simp)
  exact I.step (g' := s.gens) (d' := s.drawn) (ch := []) (fun _ z => nomatch z) (fun b o _ hb _ e n => u.keep b o e n hb (by simp)) (fun b o _ hb _ e n => u.slot b o e n hb (by simp)) (fun b o _ e n => u.free b o e n (by simp)) (fun b o _ e => u.there b o e (by simp)) u.tups u.frzs u.tbls (fun m' hm => by
    obtain ⟨o', es', ep', ho', r'⟩ := hm
    rw [ho] at ho'; cases ho'
    exact ⟨_, es', ep', hL, r'⟩) hok I.bare
/-- behind a call (or a comprehension's block): the slots of this frame may have changed too, the records at ch may have turned -/
theorem Inv.call {g' : Array GenState} {t' : Nat} {d' : Drawn} {ch : List Addr} (I : Inv X pins σ H s) (u : Un (frs X.stack) ch H H' s.heap h') (hok : HOk X.prog X.w H' h') (hg : AllBare g')
    (hch : ∀ b ∈ ch, (b ∈ X.ex ∨ X.s_0.heap.objs.size ≤ b) ∧ b ≠ X.env.locals ∧ (∀ x c, X.env.cells.lookup x = some c → c ≠ b) ∧ ∀ p ∈ X.pn ++ pins, p.1 ≠ b) :
    Inv X pins σ H' { s with heap := h', gens := g', drawn := d', toks := t' } := by
  obtain ⟨m, ⟨o, es, ep, ho, r⟩, _⟩ := id I.loc
  obtain ⟨sl, hL⟩ := u.any ho I.free fun z => (hch _ z).2.1 rfl
  exact I.step (ch := ch) hch (fun b o hL hb hc e n => u.keep b o e n (fun z => (List.mem_cons.mp (I.stkSub b z)).elim hL hb) hc) (fun b o _ _ hc e n => u.any e n hc) (fun b o hc e n => u.free b o e n hc) (fun b o hc e => u.there b o e hc) u.tups u.frzs u.tbls (fun m' hm => by
    obtain ⟨o', es', ep', ho', r'⟩ := hm
    rw [ho] at ho'; cases ho'
    exact ⟨_, es', ep', hL, r'⟩) hok hg
/-- an untracked record of ours (an iterator) has turned -/
theorem Inv.turned {t' : Nat} {it : Addr} (I : Inv X pins σ H s) (k : ∀ b o, b ≠ it → s.heap.get? b = some o → h'.get? b = some o) (hn : H it = none) (hL : it ≠ X.env.locals)
    (h1 : it ∈ X.ex ∨ X.s_0.heap.objs.size ≤ it) (h2 : ∀ x c, X.env.cells.lookup x = some c → c ≠ it) (h3 : ∀ p ∈ X.pn ++ pins, p.1 ≠ it) : Inv X pins σ H { s with heap := h', toks := t' } := by
  have nit : ∀ b u, H b = some u → b ≠ it := fun b u e z => by rw [z, hn] at e; cases e
  refine I.step (g' := s.gens) (d' := s.drawn) (ch := [it]) (fun b hb => ?_) (fun b o _ _ hc e _ => k b o (fun z => hc (by simp [z])) e) (fun b o _ _ hc e _ => ⟨o.slots, k b o (fun z => hc (by simp [z])) e⟩) (fun _ _ _ _ n => n)
    (fun b o hc e => ⟨o, k b o (fun z => hc (by simp [z])) e⟩) (fun _ _ e => e) (fun _ _ _ e => e) (fun b ps e => ⟨#[], by rw [e]; simp⟩) (fun m hm => ?_) (fun b u e => ?_) I.bare
  · have e : b = it := by simpa using hb
    subst e
    exact ⟨h1, hL, h2, h3⟩
  · obtain ⟨o, es, ep, ho, r⟩ := hm
    exact ⟨o, es, ep, k _ o (Ne.symm hL) ho, r⟩
  · refine (I.hok b u e).stay (fun c v hc q => k c v ?_ q) (fun _ q => q) fun _ _ q => q
    rcases hc with z | z
    · rw [z]; exact nit b u e
    · exact nit c _ z
theorem Inv.tok (I : Inv X pins σ H s) (t : Nat) : Inv X pins σ H { s with toks := t } := I.un (h' := s.heap) (t' := t) Un.refl I.hok
/-- all objects kept -/
theorem Inv.kept {t' : Nat} (I : Inv X pins σ H s) (k : ∀ b u, s.heap.get? b = some u → h'.get? b = some u) : Inv X pins σ H { s with heap := h', toks := t' } := I.un (Un.kept k) (I.hok.kept k)
/-- a new object laid and tracked -/
theorem Inv.laid {a : Addr} {o : HO} {t' : Nat} (I : Inv X pins σ H s) (k : ∀ b u, s.heap.get? b = some u → h'.get? b = some u) (hp : s.heap.objs.size ≤ a) (new : ObjOk X.prog X.w (upd H a o) h' a o) :
    Inv X pins σ (upd H a o) { s with heap := h', toks := t' } := I.un (Un.laid k hp (I.hok.fresh hp)) (I.hok.laid k hp new)
/-- an object written -/
theorem Inv.write {x e : Addr} {o : HO} {t' : Nat} (I : Inv X pins σ H s) (mu : Mut (H x)) (he : e = x ∨ H e = some (.own x)) (k : ∀ b u, b ≠ e → s.heap.get? b = some u → h'.get? b = some u) (heo : ∃ u, h'.get? e = some u)
    (new : ObjOk X.prog X.w (upd H x o) h' x o) : Inv X pins σ (upd H x o) { s with heap := h', toks := t' } := I.un (Un.write mu he k heo) (I.hok.write mu he k heo new)
/-- forgetting slots, pins -/
theorem Inv.weak {σ' : List (Option V)} (I : Inv X pins σ H s) (hl : σ'.length = σ.length) (w : ∀ (i : Nat) v, σ'[i]? = some (some v) → σ[i]? = some (some v)) : Inv X pins σ' H s :=
  ⟨I.ok, I.os, I.bare, I.base, let ⟨m, hn, hl'⟩ := I.loc; ⟨m, hn, fun i x v e1 e2 e3 => hl' i x v e1 (w i v e2) e3⟩, I.cell, I.free, I.freeC, I.pin, I.hok, hl.trans I.len⟩
theorem Inv.pins_of {pins' : List (Addr × Obj)} (I : Inv X pins σ H s) (h : ∀ p ∈ pins', s.heap.get? p.1 = some p.2 ∧ H p.1 = none ∧ p.1 ≠ X.env.locals ∧ p.1 ∉ X.fs ∧ ∀ v, p.2.data ≠ .cell v) : Inv X pins' σ H s :=
  ⟨I.ok, I.os, I.bare, I.base, I.loc, I.cell, I.free, I.freeC, fun p hp => (List.mem_append.mp hp).elim (fun z => I.pin p (List.mem_append_left _ z)) (h p), I.hok, I.len⟩
theorem nodup_ix {N : List Str} (hN : N.Nodup) {i j : Nat} {x : Str} (a : N[i]? = some x) (b : N[j]? = some x) : i = j := by
  obtain ⟨h1, e1⟩ := List.getElem?_eq_some_iff.mp a
  obtain ⟨h2, e2⟩ := List.getElem?_eq_some_iff.mp b
  exact (List.getElem_inj hN).mp (e1.trans e2.symm)
/-- a name is stored; what changed -/
theorem store_ok2 {M : Model} {A : Around} {E : Value → Shared → Prop} {i : Nat} {x : Str} {v : V} {u : Value} {Q : Unit → Shared → Prop} (I : Inv X pins σ H s) (hN : X.N.Nodup) (hi : X.N[i]? = some x) (hx : Loc X.env.scope x) (r : RelV v u)
    (h : ∀ s', Inv X pins (σ.set i (some v)) H s' → (∃ a, Heap.SameBut a s.heap s'.heap ∧ (a = X.env.locals ∨ X.env.cells.lookup x = some a)) → Q () s') (hf : X.fn x = true ∨ X.env.scope.names.lookup x = some .local := by first | exact .inl rfl | exact .inr rfl | assumption) : wpAny M A (storeName X.env x u) Q E s := by
  obtain ⟨m, hn, hl⟩ := id I.loc
  have hcls : (X.env.scope.kind == .class || (X.env.scope.kind == .module && X.env.locals != X.env.globals)) = false := by rw [I.ok.kind]; rfl
  have hiσ : i < σ.length := by rw [I.len]; exact (List.getElem?_eq_some_iff.mp hi).1
  have cne := I.cne
  have tracked : ∀ {a : Addr} {h' : Heap}, (∃ o, s.heap.get? a = some o ∧ H a = none) → Heap.SameBut a s.heap h' → HOk X.prog X.w H h' := fun {a h'} ha hs b ob e => by
    obtain ⟨_, _, hfree⟩ := ha
    refine (I.hok b ob e).stay (fun c w' hc q => (hs.2 c ?_).trans q) (fun _ q => q) fun _ _ q => q
    rintro rfl
    rcases hc with rfl | hc
    · rw [hfree] at e; cases e
    · rw [hfree] at hc; cases hc
  rcases hx with hk | hk
  · refine wpAny_storeName_local hk hn (fun h' hn' hs => ?_) hcls
    obtain ⟨oL, _, _, hoL, _⟩ := id hn
    refine h _ ⟨I.ok, I.os, I.bare, ⟨fun b o e n hb hx => ?_, fun b o e n hb hx => ?_, I.base.free, fun b o e hx => ?_, I.base.tups, I.base.frzs, I.base.tbls⟩, ⟨_, hn', fun j y v' e1 e2 e3 => ?_⟩, fun y c e => ?_, I.free, I.freeC, fun p hp => ?_, tracked ⟨oL, hoL, I.free⟩ hs, by simpa using I.len⟩ ⟨_, hs, .inl rfl⟩
    · exact (hs.2 b (Nat.ne_of_lt (Nat.lt_of_lt_of_le (Heap.lt_size e) I.ok.above))).trans (I.base.keep b o e n hb hx)
    · obtain ⟨sl, e1⟩ := I.base.slot b o e n hb hx
      exact ⟨sl, (hs.2 b (Nat.ne_of_lt (Nat.lt_of_lt_of_le (Heap.lt_size e) I.ok.above))).trans e1⟩
    · obtain ⟨o', e1⟩ := I.base.there b o e hx
      exact ⟨o', (hs.2 b (Nat.ne_of_lt (Nat.lt_of_lt_of_le (Heap.lt_size e) I.ok.above))).trans e1⟩
    · by_cases hj : j = i
      · subst hj
        rw [hi] at e1; cases e1
        rw [List.getElem?_set_self hiσ] at e2
        cases e2
        exact ⟨u, r, .inl ⟨hk, by simp⟩⟩
      · rw [List.getElem?_set_ne (Ne.symm hj)] at e2
        obtain ⟨u', r', q⟩ := hl j y v' e1 e2 e3
        refine ⟨u', r', ?_⟩
        rcases q with ⟨k, e⟩ | ⟨k, c, e, z⟩
        · refine .inl ⟨k, ?_⟩
          have : y ≠ x := fun e => hj (nodup_ix hN e1 (e ▸ hi))
          simp [this, e]
        · exact .inr ⟨k, c, e, z.sameBut hs (cne y c e)⟩
    · obtain ⟨w', z⟩ := I.cell y c e
      exact ⟨w', z.sameBut hs (cne y c e)⟩
    · obtain ⟨e, n, ne, nf, d⟩ := I.pin p hp
      exact ⟨(hs.2 p.1 ne).trans e, n, ne, nf, d⟩
  · have hfn : X.fn x = true := by
      rcases hf with z | z
      · exact z
      · rw [z] at hk; cases hk
    obtain ⟨c, hc⟩ := I.ok.has x (.inl hk)
    obtain ⟨w', z⟩ := I.cell x c hc
    refine wpAny_storeName_cell I.ok.kind hk hc z (fun h' hc' hs => ?_)
    obtain ⟨oc, hoc, hocd⟩ := id z
    refine h { s with heap := h' } ⟨I.ok, I.os, I.bare, ⟨fun b o e n hb hx => ?_, fun b o e n hb hx => ?_, I.base.free, fun b o e hx => ?_, I.base.tups, I.base.frzs, I.base.tbls⟩, ⟨m, hn.sameBut hs (Ne.symm (cne x c hc)), fun j y v' e1 e2 e3 => ?_⟩, fun y c' e => ?_, I.free, I.freeC, fun p hp => ?_, tracked ⟨oc, hoc, I.freeC x c hc⟩ hs, by simpa using I.len⟩ ⟨c, hs, .inr hc⟩
    · exact (hs.2 b (Nat.ne_of_lt (Nat.lt_of_lt_of_le (Heap.lt_size e) (I.ok.cab x c hfn hc)))).trans (I.base.keep b o e n hb hx)
    · obtain ⟨sl, e1⟩ := I.base.slot b o e n hb hx
      exact ⟨sl, (hs.2 b (Nat.ne_of_lt (Nat.lt_of_lt_of_le (Heap.lt_size e) (I.ok.cab x c hfn hc)))).trans e1⟩
    · obtain ⟨o', e1⟩ := I.base.there b o e hx
      exact ⟨o', (hs.2 b (Nat.ne_of_lt (Nat.lt_of_lt_of_le (Heap.lt_size e) (I.ok.cab x c hfn hc)))).trans e1⟩
    · by_cases hj : j = i
      · subst hj
        rw [hi] at e1; cases e1
        rw [List.getElem?_set_self hiσ] at e2
        cases e2
        exact ⟨u, r, .inr ⟨.inl hk, c, hc, hc'⟩⟩
      · rw [List.getElem?_set_ne (Ne.symm hj)] at e2
        obtain ⟨u', r', q⟩ := hl j y v' e1 e2 e3
        refine ⟨u', r', ?_⟩
        rcases q with q | ⟨k, c', e, z'⟩
        · exact .inl q
        · refine .inr ⟨k, c', e, z'.sameBut hs ?_⟩
          rintro rfl
          exact hj (nodup_ix hN e1 (I.ok.inj _ _ _ e hc ▸ hi))
    · by_cases hcc : c' = c
      · subst hcc; exact ⟨_, hc'⟩
      · obtain ⟨w2, z2⟩ := I.cell y c' e
        exact ⟨w2, z2.sameBut hs hcc⟩
    · obtain ⟨e, n, ne, nf, d⟩ := I.pin p hp
      refine ⟨(hs.2 p.1 ?_).trans e, n, ne, nf, d⟩
      intro q
      rw [q, hoc] at e
      have q' : oc = p.2 := Option.some.inj e
      exact d w' (by rw [← q']; exact hocd)
theorem store_ok {M : Model} {A : Around} {E : Value → Shared → Prop} {i : Nat} {x : Str} {v : V} {u : Value} {Q : Unit → Shared → Prop} (I : Inv X pins σ H s) (hN : X.N.Nodup) (hi : X.N[i]? = some x) (hx : Loc X.env.scope x) (r : RelV v u)
    (h : ∀ s', Inv X pins (σ.set i (some v)) H s' → Q () s') (hf : X.fn x = true ∨ X.env.scope.names.lookup x = some .local := by first | exact .inl rfl | exact .inr rfl | assumption) : wpAny M A (storeName X.env x u) Q E s :=
  store_ok2 I hN hi hx r (fun s' I' _ => h s' I') hf
/-- behind a call or a block, the state as it is -/
theorem Inv.call' {s' : Shared} {ch : List Addr} (I : Inv X pins σ H s) (ho : s'.os = s.os) (u : Un (frs X.stack) ch H H' s.heap s'.heap) (hok : HOk X.prog X.w H' s'.heap) (hg : AllBare s'.gens)
    (hch : ∀ b ∈ ch, (b ∈ X.ex ∨ X.s_0.heap.objs.size ≤ b) ∧ b ≠ X.env.locals ∧ (∀ x c, X.env.cells.lookup x = some c → c ≠ b) ∧ ∀ p ∈ X.pn ++ pins, p.1 ≠ b) : Inv X pins σ H' s' := by
  obtain ⟨h', g', d', t', o'⟩ := s'
  have e : o' = s.os := ho
  subst e
  exact I.call (g' := g') (t' := t') (d' := d') u hok hg hch
end
/-- an exception: its class, its own dict's address (where it has one), the abstract heap behind it -/
abbrev XK := Value → Option Addr → Hp → Prop
abbrev St := List (Option V)
abbrev VK := V → Hp → Prop
/-- an expression's reading; a test's; an argument list's -/
abbrev TE := St → Hp → VK → Prop
abbrev TT := St → Hp → (Bool → Hp → Prop) → Prop
abbrev TA := St → Hp → (List V → Hp → Prop) → Prop
/-- what is wanted behind a statement -/
structure Ends where
  nx : St → Hp → Prop
  rt : VK
  bk : St → Hp → Prop := fun _ _ => False
  ct : St → Hp → Prop := fun _ _ => False
abbrev TS := Ends → St → Hp → Prop
def EP (X : Cx) (pins : List (Addr × Obj)) (σ : St) (Q : VK) (u : Value) (s' : Shared) : Prop := ∃ v H', Inv X pins σ H' s' ∧ RelV v u ∧ Q v H'
def TP (X : Cx) (pins : List (Addr × Obj)) (σ : St) (Q : Bool → Hp → Prop) (b : Bool) (s' : Shared) : Prop := ∃ H', Inv X pins σ H' s' ∧ Q b H'
def AP (X : Cx) (pins : List (Addr × Obj)) (σ : St) (Q : List V → Hp → Prop) (us : List Value) (s' : Shared) : Prop := ∃ vs H', Inv X pins σ H' s' ∧ Vals vs us ∧ Q vs H'
def SP (X : Cx) (pins : List (Addr × Obj)) (D : Ends) (f : Flow) (s' : Shared) : Prop :=
  match f with
  | .next => ∃ σ' H', Inv X pins σ' H' s' ∧ D.nx σ' H'
  | .brk => ∃ σ' H', Inv X pins σ' H' s' ∧ D.bk σ' H'
  | .cont => ∃ σ' H', Inv X pins σ' H' s' ∧ D.ct σ' H'
  | .ret u => ∃ v σ' H', Inv X pins σ' H' s' ∧ RelV v u ∧ D.rt v H'
def PE (X : Cx) (e : Expr) (t : TE) : Prop :=
  ∀ (pins : List (Addr × Obj)) (s : Shared) (σ : St) (H : Hp) (Q : VK), Inv X pins σ H s → t σ H Q → wpAny (model X.prog X.w) X.A (eval e X.env) (EP X pins σ Q) X.xe s
def PT (X : Cx) (e : Expr) (t : TT) : Prop :=
  ∀ (pins : List (Addr × Obj)) (s : Shared) (σ : St) (H : Hp) (Q : Bool → Hp → Prop), Inv X pins σ H s → t σ H Q → wpAny (model X.prog X.w) X.A (isTrue e X.env (eval e X.env)) (TP X pins σ Q) X.xe s
/-- a test whatever its 'whole' is (and, or) -/
def PW (X : Cx) (e : Expr) (t : TT) : Prop :=
  ∀ (whole : Sem Value) (pins : List (Addr × Obj)) (s : Shared) (σ : St) (H : Hp) (Q : Bool → Hp → Prop), Inv X pins σ H s → t σ H Q → wpAny (model X.prog X.w) X.A (isTrue e X.env whole) (TP X pins σ Q) X.xe s
theorem PW.pt {X : Cx} {e : Expr} {t : TT} (h : PW X e t) : PT X e t := h _
/-- an argument list (no star), from the left -/
def PA (X : Cx) (es : List Expr) (t : TA) : Prop :=
  ∀ (pos : Pos) (pins : List (Addr × Obj)) (s : Shared) (σ : St) (H : Hp) (Q : List V → Hp → Prop), Inv X pins σ H s → t σ H Q → wpAny (model X.prog X.w) X.A (spliced (backTo pos (starEach es X.env))) (AP X pins σ Q) X.xe s
def PS (X : Cx) (st : Stmt) (t : TS) : Prop :=
  ∀ (pins : List (Addr × Obj)) (s : Shared) (σ : St) (H : Hp) (D : Ends), Inv X pins σ H s → t D σ H → wpAny (model X.prog X.w) X.A (exec st X.env) (SP X pins D) X.xe s
def PSs (X : Cx) (st : List Stmt) (t : TS) : Prop :=
  ∀ (pins : List (Addr × Obj)) (s : Shared) (σ : St) (H : Hp) (D : Ends), Inv X pins σ H s → t D σ H → wpAny (model X.prog X.w) X.A (execs st X.env) (SP X pins D) X.xe s
/-- weaken the end -/
theorem thn {α : Type} {t : Sem α} {Q Q' : α → Shared → Prop} {M : Model} {A : Around} {E : Value → Shared → Prop} {s : Shared} (h : wpAny M A t Q E s) (hQ : ∀ a s, Q a s → Q' a s) : wpAny M A t Q' E s := wpAny_mono h hQ fun _ _ x => x
end L2
namespace L2
open PySem PySem.Spec PyProof.Rows
section
variable {X : Cx}
def tVar (i : Nat) : TE := fun σ H Q => ∃ v, σ[i]? = some (some v) ∧ Q v H
def tC (v : V) : TE := fun _ H Q => Q v H
theorem pe_var {i : Nat} {x : Str} {pos : Pos} (hN : X.N[i]? = some x) (hv : Vis X.env.scope x) (hd : (x == ("__debug__" : Str)) = false := by decide) (hcd : (x == ("__classdict__" : Str)) = false := by decide) : PE X (.Name x pos) (tVar i) := by
  intro pins s σ H Q I h
  obtain ⟨v, e, h⟩ := h
  obtain ⟨m, hn, hl⟩ := I.loc
  obtain ⟨u, r, l⟩ := hl i x v hN e hv
  have fin : EP X pins σ Q u s := ⟨v, H, I, r, h⟩
  rcases l with ⟨hk, hm⟩ | ⟨hk, c, hc, hcell⟩
  · exact wpAny_Name (wpAny_loadName_local I.ok.kind hk hn hm fin) hd
  · rcases hk with hk | hk
    · exact wpAny_Name (wpAny_loadName_cell I.ok.kind hk hc hcell fin) hd
    · exact wpAny_Name (wpAny_loadName_free I.ok.kind hk hc hcell fin hcd) hd
theorem pe_int {i j pos} : PE X (.Constant (.int i) j pos) (tC (.int i)) := fun _ _ _ H _ I h => wpAny_Constant_int ⟨.int i, H, I.tok _, ⟨_, rfl⟩, h⟩
theorem pe_bl {b j pos} : PE X (.Constant (.bool b) j pos) (tC (.bl b)) := fun _ _ _ H _ I h => Constant_bool ⟨.bl b, H, I, rfl, h⟩
theorem pe_non {j pos} : PE X (.Constant .none j pos) (tC .non) := fun _ _ _ H _ I h => Constant_none ⟨.non, H, I, rfl, h⟩
theorem pe_str {x j pos} : PE X (.Constant (.str x) j pos) (tC (.str x)) := fun _ _ _ H _ I h => Calls.Constant_str ⟨.str x, H, I.tok _, ⟨_, rfl⟩, h⟩
/-- a global name of the def -/
def Gl (X : Cx) (x : Str) : Prop := X.env.kindOf x = some .globalImplicit
theorem ld_glob {E : Value → Shared → Prop} {pins : List (Addr × Obj)} {s : Shared} {σ : St} {H : Hp} {x : Str} {u : Value} {pos : Pos} {Q : Value → Shared → Prop} (I : Inv X pins σ H s) (hg : Gl X x) (hm : X.mg x = some u) (h : Q u s)
    (hd : (x == ("__debug__" : Str)) = false := by decide) : wpAny (model X.prog X.w) X.A (eval (.Name x pos) X.env) Q E s :=
  Calls.Name_function_global I.ok.kind hg (Calls.loadGlobal_global (by rw [I.ok.glob]; exact I.mod.glob.keeps I.bk) hm h) hd
theorem ld_blt {E : Value → Shared → Prop} {pins : List (Addr × Obj)} {s : Shared} {σ : St} {H : Hp} {x : Str} {u : Value} {pos : Pos} {Q : Value → Shared → Prop} (I : Inv X pins σ H s) (hg : Gl X x) (hm : X.mg x = none) (hv : bootBuiltins x = some u) (h : Q u s)
    (hn : x ≠ "__name__" := by decide) (hd : (x == ("__debug__" : Str)) = false := by decide) : wpAny (model X.prog X.w) X.A (eval (.Name x pos) X.env) Q E s := by
  obtain ⟨mb, h1, h2⟩ := I.mod.blt
  exact Calls.Name_function_global I.ok.kind hg (Calls.loadGlobal_builtin (by rw [I.ok.glob]; exact I.mod.glob.keeps I.bk) hm (by rw [I.ok.blt]; exact h1.keeps I.bk) ((h2 x hn).trans hv) h) hd
/-- a module's constant, a class, a function, as a value -/
theorem pe_glob {x : Str} {v : V} {u : Value} {pos : Pos} (hg : Gl X x) (hm : X.mg x = some u) (r : RelV v u) (hd : (x == ("__debug__" : Str)) = false := by decide) : PE X (.Name x pos) (tC v) :=
  fun _ _ _ H _ I h => ld_glob I hg hm ⟨v, H, I, r, h⟩ hd
variable {a b : Expr} {ta tb : TE} {pos : Pos}
def PC (X : Cx) (op : CmpOp) (a b : Expr) (t : TE) : Prop :=
  ∀ (pins : List (Addr × Obj)) (s : Shared) (σ : St) (H : Hp) (Q : VK), Inv X pins σ H s → t σ H Q →
    wpAny (model X.prog X.w) X.A (eval a X.env) (fun v s₁ => wpAny (model X.prog X.w) X.A (eval b X.env) (fun u s₂ => wpAny (model X.prog X.w) X.A (compareOp op v u) (EP X pins σ Q) X.xe s₂) X.xe s₁) X.xe s
theorem nobehind (b : Expr) {op : CmpOp} (h : op ≠ .In) (h2 : op ≠ .NotIn) : behindInMarks op b = false := by
  have e1 : (op == CmpOp.In) = false := by cases op <;> first | rfl | exact absurd rfl h
  have e2 : (op == CmpOp.NotIn) = false := by cases op <;> first | rfl | exact absurd rfl h2
  cases b <;> simp [behindInMarks, e1, e2]
/-- is None -/
def tIsN (ta : TE) : TE := fun σ H Q => ta σ H fun x H1 => Q (.bl (decide (x = .non))) H1
theorem RelV.none_iff {x : V} {v : Value} (r : RelV x v) : (v == Value.none) = decide (x = .non) := by
  cases x with
  | non => cases r; rfl
  | bl _ => cases r; rfl
  | int _ => obtain ⟨t, rfl⟩ := r; rfl
  | str _ => obtain ⟨t, rfl⟩ := r; rfl
  | byt _ => obtain ⟨t, rfl⟩ := r; rfl
  | flt _ => obtain ⟨t, rfl⟩ := r; rfl
  | ref _ => cases r; rfl
  | ty _ => cases r; rfl
theorem pc_isN {j pos'} (ha : PE X a ta) : PC X .Is a (.Constant .none j pos') (tIsN ta) := by
  intro pins s σ H Q I h
  refine thn (ha pins s σ H _ I h) fun v s1 ⟨x, H1, I1, r1, q1⟩ => ?_
  exact Constant_none (is_none_gen ⟨.bl _, H1, I1, by rw [r1.none_iff]; rfl, q1⟩)
/-- a comparison as a value, as a test -/
def tB (t : TE) : TT := fun σ H Q => t σ H fun x H1 => ∃ c, x = .bl c ∧ Q c H1
theorem pt_cmp {op : CmpOp} {t : TE} (h : PC X op a b t) (h1 : behindInMarks op b = false := by first | exact nobehind _ (by decide) (by decide) | rfl) : PT X (.Compare a [op] [b] pos) (tB t) := by
  intro pins s σ H Q I hw
  refine wpAny_isTrue_Compare1 (thn (h pins s σ H _ I hw) fun v s1 h1 => thn h1 fun u s2 h2 => thn h2 fun c s3 ⟨x, H1, I1, r1, q1⟩ => ?_) h1
  obtain ⟨d, rfl, q⟩ := q1
  cases r1
  exact wpAny_truthy_bool ⟨H1, I1, q⟩
/-- an expression whose value is a bool, as a test -/
theorem pt_val {e : Expr} {t : TE} (h : PE X e t) (he : ∀ whole, isTrue e X.env whole = (do let v ← whole; standAt e.pos; holding [v] (truthy v)) := by intro _; rfl) : PT X e (tB t) := by
  intro pins s σ H Q I hw
  refine isTrue_plain (thn (h pins s σ H _ I hw) fun v s1 ⟨x, H1, I1, r1, q1⟩ => ?_) (he _)
  obtain ⟨d, rfl, q⟩ := q1
  cases r1
  exact wpAny_truthy_bool ⟨H1, I1, q⟩
variable {tA tB' : TT} {rest : List Expr}
def tAnd (t u : TT) : TT := fun σ H Q => t σ H fun c H1 => if c = true then u σ H1 Q else Q false H1
def tOr (t u : TT) : TT := fun σ H Q => t σ H fun c H1 => if c = true then Q true H1 else u σ H1 Q
def tNot (t : TT) : TT := fun σ H Q => t σ H fun c H1 => Q (!c) H1
theorem pw_and1 (ha : PT X a tA) : PW X (.BoolOp .And [a] pos) tA := by
  intro wh pins s σ H Q I h
  refine isTrue_and (thn (ha pins s σ H Q I h) fun c s1 e => ?_)
  cases c with
  | true => exact isTrue_and_nil e
  | false => exact e
theorem pw_or1 (ha : PT X a tA) : PW X (.BoolOp .Or [a] pos) tA := by
  intro wh pins s σ H Q I h
  refine isTrue_or (thn (ha pins s σ H Q I h) fun c s1 e => ?_)
  cases c with
  | false => exact isTrue_or_nil e
  | true => exact e
theorem pw_and (ha : PT X a tA) (hb : PW X (.BoolOp .And (b :: rest) pos) tB') : PW X (.BoolOp .And (a :: b :: rest) pos) (tAnd tA tB') := by
  intro wh pins s σ H Q I h
  refine isTrue_and (thn (ha pins s σ H _ I h) fun c s1 ⟨H1, I1, q1⟩ => ?_)
  cases c with
  | true => exact hb wh pins s1 σ H1 Q I1 q1
  | false => exact ⟨H1, I1, q1⟩
theorem pw_or (ha : PT X a tA) (hb : PW X (.BoolOp .Or (b :: rest) pos) tB') : PW X (.BoolOp .Or (a :: b :: rest) pos) (tOr tA tB') := by
  intro wh pins s σ H Q I h
  refine isTrue_or (thn (ha pins s σ H _ I h) fun c s1 ⟨H1, I1, q1⟩ => ?_)
  cases c with
  | true => exact ⟨H1, I1, q1⟩
  | false => exact hb wh pins s1 σ H1 Q I1 q1
theorem pt_not (ha : PT X a tA) : PT X (.UnaryOp .Not a pos) (tNot tA) := by
  intro pins s σ H Q I h
  exact isTrue_not (ha pins s σ H (fun c H1 => Q (!c) H1) I h)
/-- .. as values (bools) -/
def tAndV (ta tb : TE) : TE := fun σ H Q => ta σ H fun x H1 => ∃ c, x = .bl c ∧ if c = true then tb σ H1 Q else Q (.bl false) H1
theorem pe_one {op} {t : TE} (h : PE X a t) : PE X (.BoolOp op [a] pos) t := fun pins s σ H Q I hw => BoolOp_one (h pins s σ H Q I hw)
theorem pe_and (ha : PE X a ta) (hb : PE X (.BoolOp .And (b :: rest) pos) tb) : PE X (.BoolOp .And (a :: b :: rest) pos) (tAndV ta tb) := by
  intro pins s σ H Q I h
  refine BoolOp_and (thn (ha pins s σ H _ I h) fun v s1 ⟨x, H1, I1, r1, q1⟩ => ?_)
  obtain ⟨c, rfl, q1⟩ := q1
  cases r1
  refine wpAny_truthy_bool ?_
  cases c with
  | true => exact hb pins s1 σ H1 Q I1 q1
  | false => exact ⟨.bl false, H1, I1, rfl, q1⟩
end
end L2
namespace L2
open PySem PySem.Spec PyProof.Rows
def SqL (K : PySem.W.Frag) (H : Hp) (a : Addr) (xs : List V) : Prop :=
  Rd H a (.lst xs) ∨
    ∃ (o : Obj) (its : Array Value) (n : Nat), K.lookup a = some o ∧ o.cls = .type "list" ∧ o.dict = none ∧ o.data = .seq its n ∧ its.size ≤ sizeLine ∧ Vals xs its.toList
def SqT (K : PySem.W.Frag) (H : Hp) (a : Addr) (xs : List V) : Prop :=
  Rd H a (.tup xs) ∨
    ∃ (o : Obj) (its : Array Value) (n : Nat), K.lookup a = some o ∧ o.cls = .type "tuple" ∧ o.data = .seq its n ∧ its.size ≤ sizeLine ∧ Vals xs its.toList
def absV : Value → Option V
  | .none => some .non
  | .bool b => some (.bl b)
  | .int i _ => some (.int i)
  | .str x _ => some (.str x)
  | .bytes b _ => some (.byt b)
  | .float b _ => some (.flt b)
  | .ref a => some (.ref a)
  | .type n => some (.ty n)
  | _ => none
theorem RelV.abs {x : V} {u : Value} (r : RelV x u) : absV u = some x := by
  cases x with
  | non => cases r; rfl
  | bl _ => cases r; rfl
  | int _ => obtain ⟨t, rfl⟩ := r; rfl
  | str _ => obtain ⟨t, rfl⟩ := r; rfl
  | byt _ => obtain ⟨t, rfl⟩ := r; rfl
  | flt _ => obtain ⟨t, rfl⟩ := r; rfl
  | ref _ => cases r; rfl
  | ty _ => cases r; rfl
theorem RelV.inj {x y : V} {u : Value} (r : RelV x u) (q : RelV y u) : x = y := Option.some.inj (r.abs.symm.trans q.abs)
theorem Vals.inj : ∀ {xs ys : List V} {us : List Value}, Vals xs us → Vals ys us → xs = ys
  | _, _, _, .nil, .nil => rfl
  | _, _, _, .cons r t, .cons r' t' => by rw [r.inj r', Vals.inj t t']
section
variable {X : Cx} {pins : List (Addr × Obj)} {σ : St} {H : Hp} {s : Shared} {a : Addr} {xs ys : List V}
theorem SqL.of {K : PySem.W.Frag} (h : H a = some (.lst xs)) : SqL K H a xs := .inl (.inl h)
theorem SqT.of {K : PySem.W.Frag} (h : H a = some (.tup xs)) : SqT K H a xs := .inl (.inl h)
theorem Inv.list (I : Inv X pins σ H s) (h : SqL X.K H a xs) : ∃ its : List Value, Vals xs its ∧ PlainL s.heap a its.toArray ∧ xs.length ≤ sizeLine := by
  rcases h with h | ⟨o, its, n, hk, hc, hd, hs, hz, r⟩
  · obtain ⟨z, its, n, r, e⟩ := h.ok I.hok
    exact ⟨its, r, ⟨_, n, e, rfl, rfl, rfl⟩, z⟩
  · refine ⟨its.toList, r, ⟨o, n, I.kIn a o hk, hc, hd, by simpa using hs⟩, ?_⟩
    have e := r.length
    simp only [Array.length_toList] at e
    omega
theorem Inv.tuple (I : Inv X pins σ H s) (h : SqT X.K H a xs) : ∃ its : List Value, Vals xs its ∧ IsTup s.heap a its.toArray ∧ xs.length ≤ sizeLine := by
  rcases h with h | ⟨o, its, n, hk, hc, hs, hz, r⟩
  · obtain ⟨z, its, r, p⟩ := h.ok I.hok
    exact ⟨its, r, p, z⟩
  · refine ⟨its.toList, r, ⟨o, I.kIn a o hk, hc, n, by simpa using hs⟩, ?_⟩
    have e := r.length
    simp only [Array.length_toList] at e
    omega
theorem Inv.list_inj (I : Inv X pins σ H s) (h : SqL X.K H a xs) (h' : SqL X.K H a ys) : xs = ys := by
  obtain ⟨its, r, ⟨o, n, e, _, _, d⟩, _⟩ := I.list h
  obtain ⟨its', r', ⟨o', n', e', _, _, d'⟩, _⟩ := I.list h'
  rw [e] at e'; cases e'
  rw [d] at d'
  injection d' with d1 _
  have : its = its' := by simpa using congrArg Array.toList d1
  subst this
  exact r.inj r'
theorem Inv.tuple_inj (I : Inv X pins σ H s) (h : SqT X.K H a xs) (h' : SqT X.K H a ys) : xs = ys := by
  obtain ⟨its, r, ⟨o, e, _, n, d⟩, _⟩ := I.tuple h
  obtain ⟨its', r', ⟨o', e', _, n', d'⟩, _⟩ := I.tuple h'
  rw [e] at e'; cases e'
  rw [d] at d'
  injection d' with d1 _
  have : its = its' := by simpa using congrArg Array.toList d1
  subst this
  exact r.inj r'
end
abbrev Cx.wish (X : Cx) (E : Value → Shared → Prop) : Cx := { X with xe := E }
/-- no exception leaves -/
abbrev Cx.nox (X : Cx) : Cx := X.wish fun _ _ => False
theorem Cx.Ok.wish {X : Cx} (ok : X.Ok) (E : Value → Shared → Prop) : (X.wish E).Ok :=
  ⟨ok.mod, ok.kind, ok.glob, ok.blt, ok.above, ok.inj, ok.has, ok.cab, ok.hd, ok.frames, ok.stk, ok.exf, ok.bs, ok.bsz, ok.noex, ok.exfs, ok.funs, ok.frf⟩
theorem Cx.Ok.unwish {X : Cx} {E : Value → Shared → Prop} (ok : (X.wish E).Ok) : X.Ok :=
  ⟨ok.mod, ok.kind, ok.glob, ok.blt, ok.above, ok.inj, ok.has, ok.cab, ok.hd, ok.frames, ok.stk, ok.exf, ok.bs, ok.bsz, ok.noex, ok.exfs, ok.funs, ok.frf⟩
section
variable {X : Cx} {pins : List (Addr × Obj)} {σ : St} {H : Hp} {s : Shared} {E : Value → Shared → Prop}
theorem Inv.wish (I : Inv X pins σ H s) (E : Value → Shared → Prop) : Inv (X.wish E) pins σ H s := ⟨I.ok.wish E, I.os, I.bare, I.base, I.loc, I.cell, I.free, I.freeC, I.pin, I.hok, I.len⟩
theorem Inv.unwish (I : Inv (X.wish E) pins σ H s) : Inv X pins σ H s := ⟨I.ok.unwish, I.os, I.bare, I.base, I.loc, I.cell, I.free, I.freeC, I.pin, I.hok, I.len⟩
theorem SP.unwish {D : Ends} {f : Flow} {s' : Shared} (h : SP (X.wish E) pins D f s') : SP X pins D f s' := by
  cases f with
  | next => obtain ⟨σ', H', I, q⟩ := h; exact ⟨σ', H', I.unwish, q⟩
  | brk => obtain ⟨σ', H', I, q⟩ := h; exact ⟨σ', H', I.unwish, q⟩
  | cont => obtain ⟨σ', H', I, q⟩ := h; exact ⟨σ', H', I.unwish, q⟩
  | ret u => obtain ⟨v, σ', H', I, r, q⟩ := h; exact ⟨v, σ', H', I.unwish, r, q⟩
theorem PSs.nox {st : List Stmt} {t : TS} (h : PSs X.nox st t) : PSs X st t := fun pins s σ H D I hw =>
  wpAny_mono (h pins s σ H D (I.wish _) hw) (fun _ _ q => q.unwish) fun _ _ z => False.elim z
end
section
variable {X : Cx} {st : Stmt} {rest : List Stmt} {t u : TS} {e : Expr} {te : TE} {pos : Pos}
def tNext : TS := fun D σ H => D.nx σ H
def tSeq (t u : TS) : TS := fun D σ H => t { D with nx := u D } σ H
theorem pss_nil : PSs X [] tNext := fun _ _ σ H _ I h => wpAny_execs_nil ⟨σ, H, I, h⟩
theorem pss_cons (h1 : PS X st t) (h2 : PSs X rest u) : PSs X (st :: rest) (tSeq t u) := by
  intro pins s σ H D I h
  refine wpAny_execs_cons (thn (h1 pins s σ H { D with nx := u D } I h) fun f s1 q => ?_)
  cases f with
  | next =>
    obtain ⟨σ', H', I', q⟩ := q
    exact h2 pins s1 σ' H' D I' q
  | ret v => exact q
  | brk => exact q
  | cont => exact q
theorem pss_one (h1 : PS X st t) : PSs X [st] t := by
  intro pins s σ H D I h
  refine wpAny_execs_cons (thn (h1 pins s σ H D I h) fun f s1 q => ?_)
  cases f with
  | next => exact wpAny_execs_nil q
  | ret v => exact q
  | brk => exact q
  | cont => exact q
/-- in a def's body nothing is shown -/
theorem Inv.quiet {pins : List (Addr × Obj)} {σ : St} {H : Hp} {s : Shared} (I : Inv X pins σ H s) : interactive X.env = false := by simp [interactive, I.ok.kind]
/-- an expression whose value is dropped -/
def tDrop (te : TE) : TS := fun D σ H => te σ H fun _ H1 => D.nx σ H1
theorem ps_expr (he : PE X e te) (hs : swapsWith e none pos.line X.env = pure false := by rfl) : PS X (.Expr e pos) (tDrop te) := by
  intro pins s σ H D I h
  exact wpAny_Expr_any (thn (he pins s σ H _ I h) fun v s1 ⟨x, H1, I1, r1, q1⟩ => ⟨σ, H1, I1, q1⟩) I.quiet hs
def tRet (te : TE) : TS := fun D σ H => te σ H D.rt
theorem ps_ret (he : PE X e te) : PS X (.Return (some e) pos) (tRet te) := by
  intro pins s σ H D I h
  exact wpAny_Return_some (thn (he pins s σ H _ I h) fun v s1 ⟨x, H1, I1, r1, q1⟩ => ⟨x, σ, H1, I1, r1, q1⟩)
def tIfS (c : TT) (t u : TS) : TS := fun D σ H => c σ H fun b H1 => if b = true then t D σ H1 else u D σ H1
theorem ps_if {c : Expr} {a b : List Stmt} {tc : TT} (hc : PT X c tc) (ha : PSs X a t) (hb : PSs X b u) : PS X (.If c a b pos) (tIfS tc t u) := by
  intro pins s σ H D I h
  refine wpAny_If (thn (hc pins s σ H _ I h) fun d s1 ⟨H1, I1, q1⟩ => ?_)
  cases d with
  | true => exact ha pins s1 σ H1 D I1 q1
  | false => exact hb pins s1 σ H1 D I1 q1
end
abbrev TG := V → St → Hp → (St → Hp → Prop) → Prop
abbrev TGs := List V → St → Hp → (St → Hp → Prop) → Prop
def PG (X : Cx) (target : Expr) (t : TG) : Prop :=
  ∀ (pins : List (Addr × Obj)) (s : Shared) (σ : St) (H : Hp) (v : V) (u : Value) (Q : St → Hp → Prop), Inv X pins σ H s → RelV v u → t v σ H Q →
    wpAny (model X.prog X.w) X.A (assign target X.env u) (fun _ s' => ∃ σ' H', Inv X pins σ' H' s' ∧ Q σ' H') X.xe s
/-- several targets, one after another -/
def PGs (X : Cx) (ts : List Expr) (t : TGs) : Prop :=
  ∀ (pins : List (Addr × Obj)) (s : Shared) (σ : St) (H : Hp) (vs : List V) (us : List Value) (Q : St → Hp → Prop), Inv X pins σ H s → Vals vs us → t vs σ H Q →
    wpAny (model X.prog X.w) X.A (assignInOrder ((assignEach ts X.env).map (·.2)) us) (fun _ s' => ∃ σ' H', Inv X pins σ' H' s' ∧ Q σ' H') X.xe s
/-- o[i] = v, by values -/
abbrev TSet := V → V → V → Hp → (Hp → Prop) → Prop
def PSet (X : Cx) (t : TSet) : Prop :=
  ∀ (pins : List (Addr × Obj)) (s : Shared) (σ : St) (H : Hp) (o i v : V) (ov iv u : Value) (Q : Hp → Prop), Inv X pins σ H s → RelV o ov → RelV i iv → RelV v u → t o i v H Q →
    wpAny (model X.prog X.w) X.A (setItem ov iv u) (fun _ s' => ∃ H', Inv X pins σ H' s' ∧ Q H') X.xe s
section
variable {X : Cx} {pos : Pos}
def gName (i : Nat) : TG := fun v σ H Q => Q (σ.set i (some v)) H
theorem pg_name {i : Nat} {x : Str} (hN : X.N.Nodup) (hi : X.N[i]? = some x) (hx : Loc X.env.scope x) (hf : X.fn x = true ∨ X.env.scope.names.lookup x = some .local := by first | exact .inl rfl | exact .inr rfl | assumption) : PG X (.Name x pos) (gName i) := by
  intro pins s σ H v u Q I r h
  exact wpAny_assign_Name (store_ok I hN hi hx r (fun s' I' => ⟨_, H, I', h⟩) hf)
def gNil : TGs := fun vs σ H Q => vs = [] ∧ Q σ H
def gCons (t : TG) (u : TGs) : TGs := fun vs σ H Q => ∃ v r, vs = v :: r ∧ t v σ H fun σ' H' => u r σ' H' Q
theorem pgs_nil : PGs X [] gNil := by
  intro pins s σ H vs us Q I r h
  obtain ⟨e, h⟩ := h
  subst e
  cases r
  exact assignInOrder_nil ⟨σ, H, I, h⟩
theorem pgs_cons {e : Expr} {es : List Expr} {t : TG} {u : TGs} (h1 : PG X e t) (h2 : PGs X es u)
    (hs : (assignEach (e :: es) X.env).map (·.2) = assign e X.env :: (assignEach es X.env).map (·.2) := by rfl) : PGs X (e :: es) (gCons t u) := by
  intro pins s σ H vs us Q I r h
  obtain ⟨v, vr, e1, h⟩ := h
  subst e1
  cases r with
  | cons r rr =>
    rw [hs]
    refine assignInOrder_cons (thn (h1 pins s σ H _ _ _ I r h) fun _ s1 ⟨σ1, H1, I1, q1⟩ => ?_)
    exact h2 pins s1 σ1 H1 _ _ Q I1 rr q1
/-- (a, b, ..) = a tuple of that length -/
def gTup (K : PySem.W.Frag) (n : Nat) (t : TGs) : TG := fun v σ H Q => ∃ a xs, v = .ref a ∧ SqT K H a xs ∧ xs.length = n ∧ t xs σ H Q
theorem pg_tup {es : List Expr} {k : Nat} {t : TGs} {n : Nat} (hc : X.calm = true) (h : PGs X es t)
    (hn : (assignEach es X.env).length = n := by rfl) (hst : (assignEach es X.env).findIdx? (·.1) = none := by rfl) : PG X (.Tuple es k pos) (gTup X.K n t) := by
  intro pins s σ H v u Q I r hw
  obtain ⟨a, xs, e1, hq, hl, hw⟩ := hw
  subst e1
  cases r
  obtain ⟨its, rv, ht, hz⟩ := I.tuple hq
  refine assign_Tuple_tuple (I.ok.hd hc) ht (by simp [hn, ← hl, rv.length]) hst fun h' hx => ?_
  have I1 : Inv X pins σ H { s with heap := h' } := I.kept (t' := s.toks) fun b o e => hx b o (Nat.ne_of_lt (Heap.lt_size e)) e
  exact h pins _ σ H xs _ Q I1 (by simpa using rv) hw
/-- o[i] = .. -/
def gSub (to ti : TE) (t : TSet) : TG := fun v σ H Q => to σ H fun o H1 => ti σ H1 fun i H2 => t o i v H2 fun H3 => Q σ H3
theorem pg_sub {o i : Expr} {to ti : TE} {t : TSet} (ho : PE X o to) (hi : PE X i ti) (hs : PSet X t)
    (ha : ∀ v, assign (.Subscript o i pos) X.env v = (do
      let ov ← holding [v] (eval o X.env)
      let iv ← holding [v, ov] (eval i X.env)
      standAt pos
      holding [v, ov, iv] (setItem ov iv v)
      release [v, ov, iv] []) := by intro _; rfl) : PG X (.Subscript o i pos) (gSub to ti t) := by
  intro pins s σ H v u Q I r h
  rw [ha]
  refine wpAny_bind (wpAny_holding (thn (ho pins s σ H _ I h) fun ov s1 ⟨x, H1, I1, r1, q1⟩ => ?_))
  refine wpAny_bind (wpAny_holding (thn (hi pins s1 σ H1 _ I1 q1) fun iv s2 ⟨y, H2, I2, r2, q2⟩ => ?_))
  refine wpAny_bind (wpAny_standAt (wpAny_bind (wpAny_holding (thn (hs pins s2 σ H2 x y v ov iv u _ I2 r1 r2 r q2) fun _ s3 ⟨H3, I3, q3⟩ => ?_))))
  exact wpAny_release ⟨σ, H3, I3, q3⟩
/-- target = value -/
def tAsg (te : TE) (g : TG) : TS := fun D σ H => te σ H fun x H1 => g x σ H1 D.nx
theorem ps_asg {tg e : Expr} {te : TE} {g : TG} (he : PE X e te) (hg : PG X tg g) (hs : swapsWithSole [tg] e pos.line X.env = pure false := by rfl) (hw : swappedStores [tg] e X.env = pure none := by rfl)
    (h1 : (assignEach [tg] X.env).map (·.2) = [assign tg X.env] := by rfl) : PS X (.Assign [tg] e pos) (tAsg te g) := by
  intro pins s σ H D I h
  refine wpAny_Assign_stores (thn (he pins s σ H _ I h) fun v s1 ⟨x, H1, I1, r1, q1⟩ => ?_) hs hw
  rw [h1]
  exact thn (hg pins s1 σ H1 x v _ I1 r1 q1) fun _ s2 q => q
/-- name = value -/
theorem ps_set {i : Nat} {x : Str} {e : Expr} {te : TE} {pos' : Pos} (hN : X.N.Nodup) (hi : X.N[i]? = some x) (hx : Loc X.env.scope x) (he : PE X e te) (hs : swapsWith e (some (.Name x pos')) pos.line X.env = pure false := by rfl) (hf : X.fn x = true ∨ X.env.scope.names.lookup x = some .local := by first | exact .inl rfl | exact .inr rfl | assumption) :
    PS X (.Assign [.Name x pos'] e pos) (tAsg te (gName i)) := by
  intro pins s σ H D I h
  refine wpAny_Assign_Name (thn (he pins s σ H _ I h) fun v s1 ⟨y, H1, I1, r1, q1⟩ => ?_) hs
  exact store_ok I1 hN hi hx r1 (fun s2 I2 => ⟨_, H1, I2, q1⟩) hf
end
section
variable {X : Cx} {pos : Pos}
/-- the invariant W with its measure -/
def tWhile (c : TT) (tb : TS) : TS := fun D σ H => ∃ W : Nat → St → Hp → Prop, (∃ m, W m σ H) ∧ ∀ m σ H, W m σ H →
  c σ H fun b H1 => if b = true then ∃ N : St → Hp → Prop, (∀ σ' H', N σ' H' → ∃ m', m' < m ∧ W m' σ' H') ∧ tb { D with nx := N, ct := N, bk := D.nx } σ H1 else D.nx σ H1
theorem ps_while {c : Expr} {body : List Stmt} {tc : TT} {tb : TS} (hp : PassesOwn (model X.prog X.w) X.A X.env X.xe) (hc : PT X c tc) (hb : PSs X body tb) : PS X (.While c body [] pos) (tWhile tc tb) := by
  intro pins s σ H D I h
  obtain ⟨W, ⟨m0, w0⟩, turn⟩ := h
  refine wpAny_While (codeAny_whileLoop (fun n s' => ∃ σ' H', Inv X pins σ' H' s' ∧ W n σ' H') ?_ m0 ⟨σ, H, I, w0⟩)
  rintro n s1 ⟨σ1, H1, I1, w1⟩
  refine wpAny_passesOwn hp (thn (hc pins s1 σ1 H1 _ I1 (turn n σ1 H1 w1)) fun b s2 ⟨H2, I2, q2⟩ => ?_)
  cases b with
  | true =>
    obtain ⟨N, hN, q2⟩ := q2
    rw [if_pos rfl]
    refine wpAny_passesOwn hp (thn (hb pins s2 σ1 H2 _ I2 q2) fun f s3 q3 => ?_)
    cases f with
    | next =>
      obtain ⟨σ3, H3, I3, n3⟩ := q3
      obtain ⟨m', hm, w3⟩ := hN σ3 H3 n3
      exact ⟨m', hm, σ3, H3, I3, w3⟩
    | cont =>
      obtain ⟨σ3, H3, I3, n3⟩ := q3
      obtain ⟨m', hm, w3⟩ := hN σ3 H3 n3
      exact ⟨m', hm, σ3, H3, I3, w3⟩
    | brk => exact q3
    | ret v => exact q3
  | false =>
    rw [if_neg Bool.false_ne_true]
    exact wpAny_execs_nil ⟨σ1, H2, I2, q2⟩
end
/-- at turn i: it yields x (the heap may grow), or it stops -/
structure It where
  go : Nat → Hp → Prop
  yld : Nat → Hp → V → Hp → Prop
  stop : Nat → Hp → Prop
/-- the iterator's own objects may turn: they are not the frame's, not pinned, younger than the entry (or a comprehension's own) -/
def FpOk (X : Cx) (pins : List (Addr × Obj)) (H : Hp) (b : Addr) : Prop :=
  H b = none ∧ b ≠ X.env.locals ∧ b ∉ X.fs ∧ (b ∈ X.ex ∨ X.s_0.heap.objs.size ≤ b) ∧ (∀ x c, X.env.cells.lookup x = some c → c ≠ b) ∧ ∀ p ∈ X.pn ++ pins, p.1 ≠ b
theorem Inv.fpOk {X : Cx} {pins : List (Addr × Obj)} {σ : St} {H H' : Hp} {s : Shared} {b : Addr} (I : Inv X pins σ H s) (hb : s.heap.objs.size ≤ b) (hn : H' b = none) : FpOk X pins H' b := by
  refine ⟨hn, Nat.ne_of_gt (Nat.lt_of_lt_of_le I.lt hb), I.nofs hb, .inr (Nat.le_trans I.sz hb), fun x c e z => ?_, fun p hp z => ?_⟩
  · obtain ⟨v, q⟩ := I.cell x c e
    exact absurd (Nat.lt_of_lt_of_le q.lt (by rw [z]; exact hb)) (Nat.lt_irrefl _)
  · exact absurd (Nat.lt_of_lt_of_le (Heap.lt_size (I.pin p hp).1) (by rw [z]; exact hb)) (Nat.lt_irrefl _)
structure Turn (P : Program) (w : World) (K : PySem.W.Frag) (tg : Expr) (J : It) (fp : List Addr) (it : Addr) (tn : Nat → Heap → Prop) : Prop where
  mem : it ∈ fp
  obj : ∀ i h, tn i h → ∀ b ∈ fp, ∃ o, h.get? b = some o ∧ ∀ v, o.data ≠ .cell v
  keep : ∀ i h h', tn i h → (∀ b ∈ fp, ∀ o, h.get? b = some o → h'.get? b = some o) → tn i h'
  item : ∀ (X : Cx), X.prog = P → X.w = w → X.K = K → X.calm = true → ∀ (i : Nat) (pins : List (Addr × Obj)) (s : Shared) (σ : St) (H : Hp) (E : Value → Shared → Prop), Inv X pins σ H s → (∀ b ∈ fp, FpOk X pins H b) → tn i s.heap → J.go i H →
    wpAny (model P w) X.A (pyNext (.ref it)) (fun r s1 => ∃ u, r = some u ∧
      wpAny (model P w) X.A (letOwnedTupleGo tg (.ref it) u) (fun _ s2 => ∃ x H', Inv X pins σ H' s2 ∧ RelV x u ∧ J.yld i H x H' ∧ tn (i + 1) s2.heap ∧ ∀ b ∈ fp, H' b = none) E s1) E s
  done : ∀ (X : Cx), X.prog = P → X.w = w → X.K = K → X.calm = true → ∀ (i : Nat) (pins : List (Addr × Obj)) (s : Shared) (σ : St) (H : Hp) (E : Value → Shared → Prop), Inv X pins σ H s → (∀ b ∈ fp, FpOk X pins H b) → tn i s.heap → J.stop i H →
    wpAny (model P w) X.A (pyNext (.ref it)) (fun r s1 => r = none ∧ Inv X pins σ H s1) E s
  self : ∀ (A : Around) (i : Nat) (s : Shared) (Q : Value → Shared → Prop) (E : Value → Shared → Prop), tn i s.heap → Q (.ref it) s → wpAny (model P w) A (pyIter (.ref it)) Q E s
abbrev TI := St → Hp → (It → Hp → Prop) → Prop
/-- an iterator has come -/
def PIE (X : Cx) (pins : List (Addr × Obj)) (σ : St) (tg : Expr) (R : It → Hp → Prop) (itv : Value) (s2 : Shared) : Prop :=
  ∃ (it : Addr) (fp : List Addr) (tn : Nat → Heap → Prop) (J : It) (H' : Hp), itv = .ref it ∧ Inv X pins σ H' s2 ∧ Turn X.prog X.w X.K tg J fp it tn ∧ tn 0 s2.heap ∧ (∀ b ∈ fp, FpOk X pins H' b) ∧ R J H'
def PI (X : Cx) (tg iter : Expr) (wi : TI) : Prop :=
  ∀ (pins : List (Addr × Obj)) (s : Shared) (σ : St) (H : Hp) (R : It → Hp → Prop), Inv X pins σ H s → wi σ H R →
    wpAny (model X.prog X.w) X.A (eval iter X.env) (fun v s1 => wpAny (model X.prog X.w) X.A (pyIter v) (PIE X pins σ tg R) X.xe s1) X.xe s
/-- the step ahead of the store is nothing for an iterator that keeps no tuple -/
theorem go_of {M : Model} {A : Around} {E : Value → Shared → Prop} {s : Shared} {tg : Expr} {it : Addr} {u : Value} {o : Obj} {n : String} {vs : Array Value} {Q : Unit → Shared → Prop} (ho : s.heap.get? it = some o) (hc : o.cls = .type n) (hd : o.data = .fields vs)
    (hn : ["enumerate", "zip", "dict_itemiterator", "dict_reverseitemiterator", "odict_iterator", "itertools.zip_longest", "itertools.pairwise"].contains n = false) (hQ : Q () s) : wpAny M A (letOwnedTupleGo tg (.ref it) u) Q E s := by
  unfold letOwnedTupleGo
  cases tg <;> first
    | exact wpAny_pure hQ
    | (cases u <;> first
        | exact wpAny_pure hQ
        | (refine wpAny_bind (wpAny_load ho ?_)
           rw [hc, hd]
           show wpAny M A (if (["enumerate", "zip", "dict_itemiterator", "dict_reverseitemiterator", "odict_iterator", "itertools.zip_longest", "itertools.pairwise"].contains n && vs[0]? == some (rawInt _)) = true then _ else _) Q E s
           rw [if_neg (by intro h; rw [hn, Bool.false_and] at h; cases h)]
           exact wpAny_pure hQ))
/-- the list at a, as it stands at each turn (a loop may append to it) -/
def Itl (K : PySem.W.Frag) (a : Addr) : It :=
  ⟨fun i H => ∃ xs x, SqL K H a xs ∧ xs[i]? = some x, fun i H x H' => H' = H ∧ ∀ xs, SqL K H a xs → xs[i]? = some x, fun i H => ∃ xs, SqL K H a xs ∧ xs.length ≤ i⟩
def Itt (K : PySem.W.Frag) (a : Addr) : It :=
  ⟨fun i H => ∃ xs x, SqT K H a xs ∧ xs[i]? = some x, fun i H x H' => H' = H ∧ ∀ xs, SqT K H a xs → xs[i]? = some x, fun i H => ∃ xs, SqT K H a xs ∧ xs.length ≤ i⟩
/-- lo, lo + 1, .. (n of them) -/
def Itr (lo : Int) (n : Nat) : It := ⟨fun i _ => i < n, fun i H x H' => H' = H ∧ x = .int (lo + i), fun i _ => n ≤ i⟩
theorem turn_list {P : Program} {w : World} {K : PySem.W.Frag} {tg : Expr} (a it : Addr) : Turn P w K tg (Itl K a) [it] it (fun i h => h.IsListIter it a i) where
  mem := by simp
  obj := fun i h st b hb => by
    have e : b = it := by simpa using hb
    subst e
    obtain ⟨o, e, c, d⟩ := st
    exact ⟨o, e, fun v z => by rw [d] at z; cases z⟩
  keep := fun i h h' st k => st.at fun o e => k it (by simp) o e
  item := by
    intro X hP hw hK hc i pins s σ H E I hf st hg
    subst hP hw hK
    obtain ⟨xs, x, hq, hx⟩ := hg
    obtain ⟨its, rv, p, hz⟩ := I.list hq
    obtain ⟨u, hu, ru⟩ := rv.get hx
    obtain ⟨f0, f1, f2, f3, f4, f5⟩ := hf it (by simp)
    refine wpAny_pyNext_list_item st p.isList (x := u) (by simpa using hu) fun h' st' sb => ?_
    have I1 : Inv X pins σ H { s with heap := h' } := I.turned (t' := s.toks) (fun b o hb e => (sb.2 b hb).trans e) f0 f1 f3 f4 f5
    obtain ⟨o, e, c, d⟩ := id st'
    exact ⟨u, rfl, go_of (s := { s with heap := h' }) e c d (by decide) ⟨x, H, I1, ru, ⟨rfl, fun ys hy => by rw [I.list_inj hy hq]; exact hx⟩, st', fun b hb => (hf b hb).1⟩⟩
  done := by
    intro X hP hw hK hc i pins s σ H E I hf st hg
    subst hP hw hK
    obtain ⟨xs, hq, hx⟩ := hg
    obtain ⟨its, rv, p, hz⟩ := I.list hq
    obtain ⟨f0, f1, f2, f3, f4, f5⟩ := hf it (by simp)
    have hl := rv.length
    exact wpAny_pyNext_list_end (I.ok.hd hc) st p.isList (by simp; omega) fun h' eb => ⟨rfl, I.turned (t' := s.toks) (fun b o hb e => eb b o hb e) f0 f1 f3 f4 f5⟩
  self := fun _ _ _ _ _ st h => wpAny_pyIter_listiter st h
theorem turn_tuple {P : Program} {w : World} {K : PySem.W.Frag} {tg : Expr} (a it : Addr) : Turn P w K tg (Itt K a) [it] it (fun i h => h.IsTupleIter it a i) where
  mem := by simp
  obj := fun i h st b hb => by
    have e : b = it := by simpa using hb
    subst e
    obtain ⟨o, e, c, d⟩ := st
    exact ⟨o, e, fun v z => by rw [d] at z; cases z⟩
  keep := fun i h h' st k => st.at fun o e => k it (by simp) o e
  item := by
    intro X hP hw hK hc i pins s σ H E I hf st hg
    subst hP hw hK
    obtain ⟨xs, x, hq, hx⟩ := hg
    obtain ⟨its, rv, p, hz⟩ := I.tuple hq
    obtain ⟨u, hu, ru⟩ := rv.get hx
    obtain ⟨f0, f1, f2, f3, f4, f5⟩ := hf it (by simp)
    refine wpAny_pyNext_tuple_item st (show s.heap.IsTuple a its.toArray from p) (x := u) (by simpa using hu) fun h' st' sb => ?_
    have I1 : Inv X pins σ H { s with heap := h' } := I.turned (t' := s.toks) (fun b o hb e => (sb.2 b hb).trans e) f0 f1 f3 f4 f5
    obtain ⟨o, e, c, d⟩ := id st'
    exact ⟨u, rfl, go_of (s := { s with heap := h' }) e c d (by decide) ⟨x, H, I1, ru, ⟨rfl, fun ys hy => by rw [I.tuple_inj hy hq]; exact hx⟩, st', fun b hb => (hf b hb).1⟩⟩
  done := by
    intro X hP hw hK hc i pins s σ H E I hf st hg
    subst hP hw hK
    obtain ⟨xs, hq, hx⟩ := hg
    obtain ⟨its, rv, p, hz⟩ := I.tuple hq
    obtain ⟨f0, f1, f2, f3, f4, f5⟩ := hf it (by simp)
    have hl := rv.length
    exact wpAny_pyNext_tuple_end (I.ok.hd hc) st (show s.heap.IsTuple a its.toArray from p) (by simp; omega) fun h' eb => ⟨rfl, I.turned (t' := s.toks) (fun b o hb e => eb b o hb e) f0 f1 f3 f4 f5⟩
  self := fun _ _ _ _ _ st h => wpAny_pyIter_tupleiter st h
theorem turn_range {P : Program} {w : World} {K : PySem.W.Frag} {tg : Expr} (it : Addr) (lo : Int) (n : Nat) : Turn P w K tg (Itr lo n) [it] it (fun i h => IsRangeIter h it (lo + (i : Nat) * 1) ((n : Int) - (i : Nat)) 1) where
  mem := by simp
  obj := fun i h st b hb => by
    have e : b = it := by simpa using hb
    subst e
    exact ⟨_, st, fun v z => by
      have z' : Data.fields _ = Data.cell v := z
      cases z'⟩
  keep := fun i h h' st k => k it (by simp) _ st
  item := by
    intro X hP hw hK hc i pins s σ H E I hf st hg
    subst hP hw hK
    obtain ⟨f0, f1, f2, f3, f4, f5⟩ := hf it (by simp)
    have W := Walks.range (prog := X.prog) (w := X.w) (I.ok.hd hc) it lo 1 n
    refine W.item i s _ _ hg st fun v h' tk hv st' kk => ?_
    obtain ⟨t, rfl⟩ := hv
    have I1 : Inv X pins σ H { s with heap := h', toks := tk } := I.turned (fun b o hb e => kk b o (by simpa using hb) e) f0 f1 f3 f4 f5
    refine ⟨_, rfl, go_of (s := { s with heap := h', toks := tk }) (n := "range_iterator") st' rfl rfl (by decide) ⟨.int (lo + i), H, I1, ⟨t, ?_⟩, ⟨rfl, rfl⟩, st', fun b hb => (hf b hb).1⟩⟩
    rw [Int.mul_one]
  done := by
    intro X hP hw hK hc i pins s σ H E I hf st hg
    subst hP hw hK
    obtain ⟨f0, f1, f2, f3, f4, f5⟩ := hf it (by simp)
    exact wpAny_pyNext_range_end (I.ok.hd hc) st (by have : n ≤ i := hg; omega) fun h' eb => ⟨rfl, I.turned (t' := s.toks) (fun b o hb e => eb b o hb e) f0 f1 f3 f4 f5⟩
  self := fun _ _ _ _ _ st h => wpAny_pyIter_rangeiter st h
end L2
namespace L2
open PySem PySem.Spec PyProof.Rows
section
variable {X : Cx} {tg : Expr}
def iList (K : PySem.W.Frag) (tl : TE) : TI := fun σ H R => tl σ H fun x H1 => ∃ a, x = .ref a ∧ (∃ xs, SqL K H1 a xs) ∧ R (Itl K a) H1
def iTup (K : PySem.W.Frag) (tl : TE) : TI := fun σ H R => tl σ H fun x H1 => ∃ a, x = .ref a ∧ (∃ xs, SqT K H1 a xs) ∧ R (Itt K a) H1
theorem pi_list {l : Expr} {tl : TE} (hl : PE X l tl) : PI X tg l (iList X.K tl) := by
  intro pins s σ H R I h
  refine thn (hl pins s σ H _ I h) fun v s1 ⟨x, H1, I1, r1, q1⟩ => ?_
  obtain ⟨a, e, ⟨xs, hq⟩, q⟩ := q1
  subst e
  cases r1
  obtain ⟨its, rv, p, hz⟩ := I1.list hq
  refine wpAny_pyIter_list p.isList ?_
  refine ⟨s1.heap.objs.size, [s1.heap.objs.size], _, _, H1, rfl, I1.kept (t' := s1.toks) fun b o e => Heap.get?_push_of_some _ e, turn_list a _, ⟨_, Heap.get?_push_size _ rfl, rfl, rfl⟩, fun b hb => ?_, q⟩
  have e : b = s1.heap.objs.size := by simpa using hb
  subst e
  exact I1.fpOk (Nat.le_refl _) (I1.hok.fresh (Nat.le_refl _))
theorem pi_tup {l : Expr} {tl : TE} (hl : PE X l tl) : PI X tg l (iTup X.K tl) := by
  intro pins s σ H R I h
  refine thn (hl pins s σ H _ I h) fun v s1 ⟨x, H1, I1, r1, q1⟩ => ?_
  obtain ⟨a, e, ⟨xs, hq⟩, q⟩ := q1
  subst e
  cases r1
  obtain ⟨its, rv, p, hz⟩ := I1.tuple hq
  refine wpAny_pyIter_tuple (show s1.heap.IsTuple a its.toArray from p) ?_
  refine ⟨s1.heap.objs.size, [s1.heap.objs.size], _, _, H1, rfl, I1.kept (t' := s1.toks) fun b o e => Heap.get?_push_of_some _ e, turn_tuple a _, ⟨_, Heap.get?_push_size _ rfl, rfl, rfl⟩, fun b hb => ?_, q⟩
  have e : b = s1.heap.objs.size := by simpa using hb
  subst e
  exact I1.fpOk (Nat.le_refl _) (I1.hok.fresh (Nat.le_refl _))
/-- a range object just made, walked -/
theorem range_it {pins : List (Addr × Obj)} {σ : St} {H : Hp} {s : Shared} {R : It → Hp → Prop} {E : Value → Shared → Prop} {lo hi : Int} {t u v : Tok} {tk : Nat} (I : Inv X pins σ H s) (h1 : -(2 ^ 62) ≤ lo) (h2 : lo < 2 ^ 62) (h3 : -(2 ^ 62) ≤ hi) (h4 : hi < 2 ^ 62)
    (q : R (Itr lo (hi - lo).toNat) H) : wpAny (model X.prog X.w) X.A (pyIter (.ref s.heap.objs.size)) (PIE X pins σ tg R) E { s with heap := s.heap.push { cls := .type "range", data := .fields #[.int lo t, .int hi u, .int 1 v] }, toks := tk } := by
  refine wpAny_pyIter_range (IsRange.new ..) (small_one h1 h2 h3 h4) ?_
  have I1 : Inv X pins σ H { s with heap := s.heap.push { cls := .type "range", data := .fields #[.int lo t, .int hi u, .int 1 v] }, toks := tk } := I.kept fun b o e => Heap.get?_push_of_some _ e
  refine ⟨(s.heap.push { cls := .type "range", data := .fields #[.int lo t, .int hi u, .int 1 v] }).objs.size, [(s.heap.push { cls := .type "range", data := .fields #[.int lo t, .int hi u, .int 1 v] }).objs.size], _, _, H, rfl,
    I1.kept (t' := tk) fun b o e => Heap.get?_push_of_some _ e, turn_range _ lo (hi - lo).toNat, ?_, fun b hb => ?_, q⟩
  · have e1 : lo + ((0 : Nat) : Int) * 1 = lo := by simp
    have e2 : (((hi - lo).toNat : Nat) : Int) - ((0 : Nat) : Int) = Builtin.Range.rangeSize lo hi 1 := by rw [rangeSize_one]; split <;> omega
    show IsRangeIter _ _ (lo + ((0 : Nat) : Int) * 1) ((((hi - lo).toNat : Nat) : Int) - ((0 : Nat) : Int)) 1
    rw [e1, e2]
    exact Heap.get?_push_size _ rfl
  · have e : b = (s.heap.push { cls := .type "range", data := .fields #[.int lo t, .int hi u, .int 1 v] }).objs.size := by simpa using hb
    subst e
    exact I1.fpOk (Nat.le_refl _) (I1.hok.fresh (Nat.le_refl _))
def iRng1 (ta : TA) : TI := fun σ H R => ta σ H fun vs H1 => ∃ j : Int, vs = [.int j] ∧ -(2 ^ 62) ≤ j ∧ j < 2 ^ 62 ∧ R (Itr 0 j.toNat) H1
theorem pi_range1 {a : Expr} {ta : TA} {p pos : Pos} (hg : Gl X "range") (hm : X.mg "range" = none) (ha : PA X [a] ta) (hs : starEach [a] X.env = [(false, eval a X.env)] := by rfl) : PI X tg (.Call (.Name "range" p) [a] [] pos) (iRng1 ta) := by
  intro pins s σ H R I h
  refine Call_ (ld_blt I hg hm boot_range (PyProof.Rows.callWith_type1 (thn (ha pos pins s σ H _ I h) fun us s1 ⟨vs, H1, I1, r1, q1⟩ => ?_) hs rfl))
  obtain ⟨j, e, q1, q2, q⟩ := q1
  subst e
  cases r1 with
  | cons r rr =>
    cases rr
    obtain ⟨t, rfl⟩ := r
    exact call_range_1 (range_it I1 (by omega) (by omega) q1 q2 (by simpa using q))
/-- W: the invariant by the turn and a measure; N: what the body is to reach -/
def tFor (wi : TI) (g : TG) (tb : TS) : TS := fun D σ H => wi σ H fun J H1 => ∃ W : Nat → Nat → St → Hp → Prop, (∃ m, W 0 m σ H1) ∧ ∀ i m σ H, W i m σ H →
  (J.stop i H ∧ D.nx σ H) ∨ (J.go i H ∧ ∃ N : St → Hp → Prop, (∀ σ' H', N σ' H' → ∃ m', m' < m ∧ W (i + 1) m' σ' H') ∧ ∀ x H', J.yld i H x H' → g x σ H' fun σ2 H2 => tb { D with nx := N, ct := N, bk := D.nx } σ2 H2)
/-- the records at fp as they stand -/
def pinsAt (fp : List Addr) (h : Heap) : List (Addr × Obj) := fp.filterMap fun b => (h.get? b).map fun o => (b, o)
theorem mem_pinsAt {fp : List Addr} {h : Heap} {b : Addr} {o : Obj} (hb : b ∈ fp) (e : h.get? b = some o) : (b, o) ∈ pinsAt fp h := List.mem_filterMap.mpr ⟨b, hb, by rw [e]; rfl⟩
theorem of_pinsAt {fp : List Addr} {h : Heap} {p : Addr × Obj} (hp : p ∈ pinsAt fp h) : p.1 ∈ fp ∧ h.get? p.1 = some p.2 := by
  obtain ⟨b, hb, e⟩ := List.mem_filterMap.mp hp
  cases q : h.get? b with
  | none => rw [q] at e; cases e
  | some o =>
    rw [q] at e
    have e' : (b, o) = p := Option.some.inj e
    subst e'
    exact ⟨hb, q⟩
theorem Inv.pinned {pins : List (Addr × Obj)} {σ : St} {H : Hp} {s : Shared} {fp : List Addr} (I : Inv X pins σ H s) (hf : ∀ b ∈ fp, FpOk X pins H b) (ho : ∀ b ∈ fp, ∃ o, s.heap.get? b = some o ∧ ∀ v, o.data ≠ .cell v) : Inv X (pins ++ pinsAt fp s.heap) σ H s :=
  I.pins_of fun p hp => (List.mem_append.mp hp).elim (fun z => I.pin p (List.mem_append_right _ z)) fun z => by
    obtain ⟨hb, e⟩ := of_pinsAt z
    obtain ⟨f0, f1, f2, _⟩ := hf p.1 hb
    obtain ⟨o, e', d⟩ := ho p.1 hb
    rw [e] at e'; cases e'
    exact ⟨e, f0, f1, f2, d⟩
theorem Inv.unpinned {pins pl : List (Addr × Obj)} {σ : St} {H : Hp} {s : Shared} (I : Inv X (pins ++ pl) σ H s) : Inv X pins σ H s := I.pins_of fun p hp => I.pin p (List.mem_append_right _ (List.mem_append_left _ hp))
theorem ps_for {iter : Expr} {body : List Stmt} {wi : TI} {g : TG} {tb : TS} {pos : Pos} (hp : PassesOwn (model X.prog X.w) X.A X.env X.xe) (hc : X.calm = true) (hi : PI X tg iter wi) (hg : PG X tg g) (hb : PSs X body tb)
    (hs : ∀ x, foldedSetIterable iter X.env x = pure x := by intro _; rfl) : PS X (.For tg iter body [] pos) (tFor wi g tb) := by
  intro pins s σ H D I h
  refine wpAny_For (thn (hi pins s σ H _ I h) fun v s1 h1 => thn h1 fun itv s2 h2 => ?_) hs
  obtain ⟨it, fp, tn, J, H2, e, I2, T, st2, f2, W, ⟨m0, w0⟩, turn⟩ := h2
  subst e
  -- what stays true of the iterator's objects through the loop
  have stat : ∀ {H' : Hp}, (∀ b ∈ fp, H' b = none) → ∀ b ∈ fp, FpOk X pins H' b := fun hn b hb => ⟨hn b hb, (f2 b hb).2⟩
  refine codeAny_forLoop_any (fun n s' => ∃ i σ' H', Inv X pins σ' H' s' ∧ tn i s'.heap ∧ (∀ b ∈ fp, H' b = none) ∧ W i n σ' H') ?_ m0 ⟨0, σ, H2, I2, st2, fun b hb => (f2 b hb).1, w0⟩
  rintro n s3 ⟨i, σ3, H3, I3, st3, fr3, w3⟩
  rcases turn i n σ3 H3 w3 with ⟨stop, qn⟩ | ⟨go, N, hN, step⟩
  · refine wpAny_passesOwn hp (thn (T.done X rfl rfl rfl hc i pins s3 σ3 H3 X.xe I3 (stat fr3) st3 stop) fun r s4 ⟨hr, I4⟩ => ?_)
    subst hr
    exact wpAny_execs_nil ⟨σ3, H3, I4, qn⟩
  · refine wpAny_passesOwn hp (thn (T.item X rfl rfl rfl hc i pins s3 σ3 H3 X.xe I3 (stat fr3) st3 go) fun r s4 ⟨u, hr, h4⟩ => ?_)
    subst hr
    refine wpAny_passesOwn hp (thn h4 fun _ s5 ⟨x, H5, I5, r5, y5, st5, fr5⟩ => ?_)
    have I5' := I5.pinned (stat fr5) (T.obj _ _ st5)
    refine wpAny_passesOwn hp (thn (hg _ s5 σ3 H5 x u _ I5' r5 (step x H5 y5)) fun _ s6 ⟨σ6, H6, I6, q6⟩ => ?_)
    refine wpAny_passesOwn hp (thn (hb _ s6 σ6 H6 _ I6 q6) fun f s7 q7 => ?_)
    have again : ∀ {σ7 : St} {H7 : Hp}, Inv X (pins ++ pinsAt fp s5.heap) σ7 H7 s7 → N σ7 H7 → ∃ m, m < n ∧ ∃ i σ' H', Inv X pins σ' H' s7 ∧ tn i s7.heap ∧ (∀ b ∈ fp, H' b = none) ∧ W i m σ' H' := fun {σ7 H7} I7 n7 => by
      obtain ⟨m', hm, w7⟩ := hN σ7 H7 n7
      refine ⟨m', hm, i + 1, σ7, H7, I7.unpinned, T.keep _ _ _ st5 fun b hb o e => (I7.pin (b, o) (List.mem_append_right _ (List.mem_append_right _ (mem_pinsAt hb e)))).1, fun b hb => ?_, w7⟩
      obtain ⟨o, e, d⟩ := T.obj _ _ st5 b hb
      exact (I7.pin (b, o) (List.mem_append_right _ (List.mem_append_right _ (mem_pinsAt hb e)))).2.1
    cases f with
    | next => obtain ⟨σ7, H7, I7, n7⟩ := q7; exact again I7 n7
    | cont => obtain ⟨σ7, H7, I7, n7⟩ := q7; exact again I7 n7
    | brk => obtain ⟨σ7, H7, I7, q7⟩ := q7; exact ⟨σ7, H7, I7.unpinned, q7⟩
    | ret v => obtain ⟨x7, σ7, H7, I7, r7, q7⟩ := q7; exact ⟨x7, σ7, H7, I7.unpinned, r7, q7⟩
end
/-- over a list that the body leaves as it is -/
theorem for_list {K : PySem.W.Frag} {a : Addr} {xs : List V} {g : TG} {tb : TS} {D : Ends} {σ : St} {H : Hp} (Pv : Nat → St → Hp → Prop) (h0 : Pv 0 σ H) (hl : ∀ i σ H, i ≤ xs.length → Pv i σ H → SqL K H a xs)
    (hs : ∀ i x σ H, xs[i]? = some x → Pv i σ H → g x σ H fun σ2 H2 => tb { D with nx := Pv (i + 1), ct := Pv (i + 1), bk := D.nx } σ2 H2) (hd : ∀ σ H, Pv xs.length σ H → D.nx σ H) :
    ∃ W : Nat → Nat → St → Hp → Prop, (∃ m, W 0 m σ H) ∧ ∀ i m σ H, W i m σ H →
      ((Itl K a).stop i H ∧ D.nx σ H) ∨ ((Itl K a).go i H ∧ ∃ N : St → Hp → Prop, (∀ σ' H', N σ' H' → ∃ m', m' < m ∧ W (i + 1) m' σ' H') ∧ ∀ x H', (Itl K a).yld i H x H' → g x σ H' fun σ2 H2 => tb { D with nx := N, ct := N, bk := D.nx } σ2 H2) := by
  refine ⟨fun i m σ H => m = xs.length - i ∧ i ≤ xs.length ∧ Pv i σ H, ⟨xs.length, by simp, Nat.zero_le _, h0⟩, ?_⟩
  rintro i m σ H ⟨rfl, hi, p⟩
  have q := hl i σ H hi p
  by_cases hlt : i < xs.length
  · refine .inr ⟨⟨xs, xs[i], q, by simp [hlt]⟩, Pv (i + 1), fun σ' H' p' => ⟨xs.length - (i + 1), by omega, rfl, hlt, p'⟩, fun x H' y => ?_⟩
    obtain ⟨e, y⟩ := y
    subst e
    exact hs i x σ _ (y xs q) p
  · have e : i = xs.length := by omega
    subst e
    exact .inl ⟨⟨xs, q, Nat.le_refl _⟩, hd σ H p⟩
theorem for_tup {K : PySem.W.Frag} {a : Addr} {xs : List V} {g : TG} {tb : TS} {D : Ends} {σ : St} {H : Hp} (Pv : Nat → St → Hp → Prop) (h0 : Pv 0 σ H) (hl : ∀ i σ H, i ≤ xs.length → Pv i σ H → SqT K H a xs)
    (hs : ∀ i x σ H, xs[i]? = some x → Pv i σ H → g x σ H fun σ2 H2 => tb { D with nx := Pv (i + 1), ct := Pv (i + 1), bk := D.nx } σ2 H2) (hd : ∀ σ H, Pv xs.length σ H → D.nx σ H) :
    ∃ W : Nat → Nat → St → Hp → Prop, (∃ m, W 0 m σ H) ∧ ∀ i m σ H, W i m σ H →
      ((Itt K a).stop i H ∧ D.nx σ H) ∨ ((Itt K a).go i H ∧ ∃ N : St → Hp → Prop, (∀ σ' H', N σ' H' → ∃ m', m' < m ∧ W (i + 1) m' σ' H') ∧ ∀ x H', (Itt K a).yld i H x H' → g x σ H' fun σ2 H2 => tb { D with nx := N, ct := N, bk := D.nx } σ2 H2) := by
  refine ⟨fun i m σ H => m = xs.length - i ∧ i ≤ xs.length ∧ Pv i σ H, ⟨xs.length, by simp, Nat.zero_le _, h0⟩, ?_⟩
  rintro i m σ H ⟨rfl, hi, p⟩
  have q := hl i σ H hi p
  by_cases hlt : i < xs.length
  · refine .inr ⟨⟨xs, xs[i], q, by simp [hlt]⟩, Pv (i + 1), fun σ' H' p' => ⟨xs.length - (i + 1), by omega, rfl, hlt, p'⟩, fun x H' y => ?_⟩
    obtain ⟨e, y⟩ := y
    subst e
    exact hs i x σ _ (y xs q) p
  · have e : i = xs.length := by omega
    subst e
    exact .inl ⟨⟨xs, q, Nat.le_refl _⟩, hd σ H p⟩
theorem for_range {lo : Int} {n : Nat} {g : TG} {tb : TS} {D : Ends} {σ : St} {H : Hp} (Pv : Nat → St → Hp → Prop) (h0 : Pv 0 σ H)
    (hs : ∀ i σ H, i < n → Pv i σ H → g (.int (lo + i)) σ H fun σ2 H2 => tb { D with nx := Pv (i + 1), ct := Pv (i + 1), bk := D.nx } σ2 H2) (hd : ∀ σ H, Pv n σ H → D.nx σ H) :
    ∃ W : Nat → Nat → St → Hp → Prop, (∃ m, W 0 m σ H) ∧ ∀ i m σ H, W i m σ H →
      ((Itr lo n).stop i H ∧ D.nx σ H) ∨ ((Itr lo n).go i H ∧ ∃ N : St → Hp → Prop, (∀ σ' H', N σ' H' → ∃ m', m' < m ∧ W (i + 1) m' σ' H') ∧ ∀ x H', (Itr lo n).yld i H x H' → g x σ H' fun σ2 H2 => tb { D with nx := N, ct := N, bk := D.nx } σ2 H2) := by
  refine ⟨fun i m σ H => m = n - i ∧ i ≤ n ∧ Pv i σ H, ⟨n, by simp, Nat.zero_le _, h0⟩, ?_⟩
  rintro i m σ H ⟨rfl, hi, p⟩
  by_cases hlt : i < n
  · refine .inr ⟨hlt, Pv (i + 1), fun σ' H' p' => ⟨n - (i + 1), by omega, rfl, hlt, p'⟩, fun x H' y => ?_⟩
    obtain ⟨e, y⟩ := y
    subst e y
    exact hs i σ _ hlt p
  · have e : i = n := by omega
    subst e
    exact .inl ⟨Nat.le_refl _, hd σ H p⟩
end L2
namespace L2
open PySem PySem.Spec PyProof.Rows
abbrev R2 := V → V → Hp → VK → Prop
/-- a two-place operation on values: f is binaryOp op, inplaceOp op or compareOp op -/
def OpR (X : Cx) (f : Value → Value → Sem Value) (r : R2) : Prop :=
  ∀ (pins : List (Addr × Obj)) (s : Shared) (σ : St) (H : Hp) (x y : V) (v u : Value) (Q : VK), Inv X pins σ H s → RelV x v → RelV y u → r x y H Q →
    wpAny (model X.prog X.w) X.A (f v u) (EP X pins σ Q) X.xe s
/-- a one-place operation -/
def UnR (X : Cx) (f : Value → Sem Value) (r : V → Hp → VK → Prop) : Prop :=
  ∀ (pins : List (Addr × Obj)) (s : Shared) (σ : St) (H : Hp) (x : V) (v : Value) (Q : VK), Inv X pins σ H s → RelV x v → r x H Q →
    wpAny (model X.prog X.w) X.A (f v) (EP X pins σ Q) X.xe s
/-- a call of a value that is known (a builtin, a type) with values -/
def CallR (X : Cx) (f : Value) (r : List V → Hp → VK → Prop) : Prop :=
  ∀ (pins : List (Addr × Obj)) (s : Shared) (σ : St) (H : Hp) (xs : List V) (us : List Value) (Q : VK), Inv X pins σ H s → Vals xs us → r xs H Q →
    wpAny (model X.prog X.w) X.A (call f us) (EP X pins σ Q) X.xe s
def tOp (r : R2) (ta tb : TE) : TE := fun σ H Q => ta σ H fun x H1 => tb σ H1 fun y H2 => r x y H2 Q
def tUn (r : V → Hp → VK → Prop) (ta : TE) : TE := fun σ H Q => ta σ H fun x H1 => r x H1 Q
def rI0 (g : Int → Int → V) : R2 := fun x y H Q => ∃ i j, x = .int i ∧ y = .int j ∧ Q (g i j) H
def rU (g : Int → V) : V → Hp → VK → Prop := fun x H Q => ∃ i, x = .int i ∧ Q (g i) H
section
variable {X : Cx} {a b c : Expr} {ta tb tc : TE} {pos : Pos}
theorem binT (ha : PE X a ta) (hb : PE X b tb) {pins : List (Addr × Obj)} {s : Shared} {σ : St} {H : Hp} {R : V → V → Hp → Prop} (I : Inv X pins σ H s)
    (h : ta σ H fun x H1 => tb σ H1 fun y H2 => R x y H2) {Q : Value → Shared → Prop} {f : Value → Value → Sem Value}
    (hf : ∀ v u s2 x y H2, Inv X pins σ H2 s2 → RelV x v → RelV y u → R x y H2 → wpAny (model X.prog X.w) X.A (f v u) Q X.xe s2) :
    wpAny (model X.prog X.w) X.A (eval a X.env) (fun v s₁ => wpAny (model X.prog X.w) X.A (eval b X.env) (fun u s₂ => wpAny (model X.prog X.w) X.A (f v u) Q X.xe s₂) X.xe s₁) X.xe s := by
  refine thn (ha pins s σ H _ I h) fun v s1 ⟨x, H1, I1, r1, q1⟩ => ?_
  refine thn (hb pins s1 σ H1 _ I1 q1) fun u s2 ⟨y, H2, I2, r2, q2⟩ => ?_
  exact hf v u s2 x y H2 I2 r1 r2 q2
theorem pe_op {op : Operator} {r : R2} (ho : OpR X (binaryOp op) r) (ha : PE X a ta) (hb : PE X b tb) : PE X (.BinOp a op b pos) (tOp r ta tb) := by
  intro pins s σ H Q I h
  exact wpAny_BinOp (binT ha hb I h fun v u s2 x y H2 I2 rx ry q => ho pins s2 σ H2 x y v u Q I2 rx ry q)
theorem pe_un {op : UnaryOp} {r : V → Hp → VK → Prop} (ho : UnR X (unaryOp op) r) (ha : PE X a ta) : PE X (.UnaryOp op a pos) (tUn r ta) := by
  intro pins s σ H Q I h
  exact UnaryOp_ (thn (ha pins s σ H _ I h) fun v s1 ⟨x, H1, I1, r1, q1⟩ => ho pins s1 σ H1 x v Q I1 r1 q1)
theorem opI0 {f : Value → Value → Sem Value} {g : Int → Int → Int}
    (rule : ∀ (i j : Int) (t u : Tok) (s : Shared) (Q : Value → Shared → Prop) (E : Value → Shared → Prop), Q (.int (g i j) s.toks) { s with toks := s.toks + 1 } → wpAny (model X.prog X.w) X.A (f (.int i t) (.int j u)) Q E s) :
    OpR X f (rI0 fun i j => .int (g i j)) := by
  intro pins s σ H x y v u Q I rx ry h
  obtain ⟨i, j, rfl, rfl, q⟩ := h
  obtain ⟨t, rfl⟩ := rx
  obtain ⟨t', rfl⟩ := ry
  exact rule i j t t' s _ _ ⟨.int (g i j), H, I.tok _, ⟨_, rfl⟩, q⟩
theorem opB0 {f : Value → Value → Sem Value} {g : Int → Int → Bool}
    (rule : ∀ (i j : Int) (t u : Tok) (s : Shared) (Q : Value → Shared → Prop) (E : Value → Shared → Prop), Q (.bool (g i j)) s → wpAny (model X.prog X.w) X.A (f (.int i t) (.int j u)) Q E s) :
    OpR X f (rI0 fun i j => .bl (g i j)) := by
  intro pins s σ H x y v u Q I rx ry h
  obtain ⟨i, j, rfl, rfl, q⟩ := h
  obtain ⟨t, rfl⟩ := rx
  obtain ⟨t', rfl⟩ := ry
  exact rule i j t t' s _ _ ⟨.bl (g i j), H, I, rfl, q⟩
theorem op_add : OpR X (binaryOp .Add) (rI0 fun i j => .int (i + j)) := opI0 fun _ _ _ _ _ _ _ q => add_int q
theorem op_sub : OpR X (binaryOp .Sub) (rI0 fun i j => .int (i - j)) := opI0 fun _ _ _ _ _ _ _ q => sub_int q
theorem unI {f : Value → Sem Value} {g : Int → Int}
    (rule : ∀ (i : Int) (t : Tok) (s : Shared) (Q : Value → Shared → Prop) (E : Value → Shared → Prop), Q (.int (g i) s.toks) { s with toks := s.toks + 1 } → wpAny (model X.prog X.w) X.A (f (.int i t)) Q E s) :
    UnR X f (rU fun i => .int (g i)) := by
  intro pins s σ H x v Q I rx h
  obtain ⟨i, rfl, q⟩ := h
  obtain ⟨t, rfl⟩ := rx
  exact rule i t s _ _ ⟨.int (g i), H, I.tok _, ⟨_, rfl⟩, q⟩
theorem un_neg : UnR X (unaryOp .USub) (rU fun i => .int (-i)) := unI fun _ _ _ _ _ q => neg_int q
end
/-- the scalars that == tells apart as data does -/
def scal : V → V → Bool
  | .non, .non => true | .non, .int _ => true | .int _, .non => true | .non, .bl _ => true | .bl _, .non => true | .non, .str _ => true | .str _, .non => true
  | .int _, .int _ => true | .bl _, .bl _ => true | .str _, .str _ => true | .byt _, .byt _ => true
  | .int _, .str _ => true | .str _, .int _ => true | .bl _, .str _ => true | .str _, .bl _ => true
  | _, _ => false
def rEq : R2 := fun x y H Q => scal x y = true ∧ Q (.bl (decide (x = y))) H
def rNe : R2 := fun x y H Q => scal x y = true ∧ Q (.bl (!decide (x = y))) H
theorem dec_int {i j : Int} : decide (V.int i = V.int j) = (i == j) := by
  rw [Bool.eq_iff_iff]
  simp
theorem dec_bl {i j : Bool} : decide (V.bl i = V.bl j) = (i == j) := by
  rw [Bool.eq_iff_iff]
  simp
theorem dec_str {i j : Str} : decide (V.str i = V.str j) = (i == j) := by
  rw [Bool.eq_iff_iff]
  simp
theorem dec_byt {i j : Array UInt8} : decide (V.byt i = V.byt j) = (i.toList == j.toList) := by
  rw [Bool.eq_iff_iff]
  cases i
  cases j
  simp
section
variable {X : Cx} {a b c : Expr} {ta tb tc : TE} {pos : Pos}
theorem fin_bl {pins : List (Addr × Obj)} {σ : St} {H : Hp} {s : Shared} {Q : VK} {k k' : Bool} (I : Inv X pins σ H s) (q : Q (.bl k) H) (e : k = k') : EP X pins σ Q (.bool k') s := by
  subst e
  exact ⟨.bl k, H, I, rfl, q⟩
theorem op_eq : OpR X (compareOp .Eq) rEq := by
  intro pins s σ H x y v u Q I rx ry h
  obtain ⟨hs, q⟩ := h
  cases x with
  | non =>
    cases rx
    cases y with
    | non => cases ry; exact PySem.EqNone.eq_none_none (fin_bl I q (by simp))
    | bl j => cases ry; exact PySem.EqNone.eq_none_bool (fin_bl I q (by simp))
    | int j => obtain ⟨t', rfl⟩ := ry; exact PySem.EqNone.eq_none_int (fin_bl I q (by simp))
    | str j => obtain ⟨t', rfl⟩ := ry; exact PySem.EqNone.eq_none_str (fin_bl I q (by simp))
    | _ => exact absurd (show false = true from hs) Bool.false_ne_true
  | bl i =>
    cases rx
    cases y with
    | non => cases ry; exact PySem.EqNone.eq_bool_none (fin_bl I q (by simp))
    | bl j => cases ry; exact eq_bool (fin_bl I q dec_bl)
    | str j => obtain ⟨t', rfl⟩ := ry; exact PySem.EqMixed.eq_bool_str (fin_bl I q (by simp))
    | _ => exact absurd (show false = true from hs) Bool.false_ne_true
  | int i =>
    obtain ⟨t, rfl⟩ := rx
    cases y with
    | non => cases ry; exact PySem.EqNone.eq_int_none (fin_bl I q (by simp))
    | int j => obtain ⟨t', rfl⟩ := ry; exact eq_int (fin_bl I q dec_int)
    | str j => obtain ⟨t', rfl⟩ := ry; exact PySem.EqMixed.eq_int_str (fin_bl I q (by simp))
    | _ => exact absurd (show false = true from hs) Bool.false_ne_true
  | str i =>
    obtain ⟨t, rfl⟩ := rx
    cases y with
    | non => cases ry; exact PySem.EqNone.eq_str_none (fin_bl I q (by simp))
    | bl j => cases ry; exact PySem.EqMixed.eq_str_bool (fin_bl I q (by simp))
    | int j => obtain ⟨t', rfl⟩ := ry; exact PySem.EqMixed.eq_str_int (fin_bl I q (by simp))
    | str j => obtain ⟨t', rfl⟩ := ry; exact eq_str (fin_bl I q dec_str)
    | _ => exact absurd (show false = true from hs) Bool.false_ne_true
  | byt i =>
    obtain ⟨t, rfl⟩ := rx
    cases y with
    | byt j => obtain ⟨t', rfl⟩ := ry; exact PySem.W.eq_bytes (fin_bl I q dec_byt)
    | _ => exact absurd (show false = true from hs) Bool.false_ne_true
  | _ => cases y <;> exact absurd (show false = true from hs) Bool.false_ne_true
theorem op_ne : OpR X (compareOp .NotEq) rNe := by
  intro pins s σ H x y v u Q I rx ry h
  obtain ⟨hs, q⟩ := h
  cases x with
  | non =>
    cases rx
    cases y with
    | non => cases ry; exact PySem.EqNone.ne_none_none (fin_bl I q (by simp))
    | bl j => cases ry; exact PySem.EqNone.ne_none_bool (fin_bl I q (by simp))
    | int j => obtain ⟨t', rfl⟩ := ry; exact PySem.EqNone.ne_none_int (fin_bl I q (by simp))
    | str j => obtain ⟨t', rfl⟩ := ry; exact PySem.EqNone.ne_none_str (fin_bl I q (by simp))
    | _ => exact absurd (show false = true from hs) Bool.false_ne_true
  | bl i =>
    cases rx
    cases y with
    | non => cases ry; exact PySem.EqNone.ne_bool_none (fin_bl I q (by simp))
    | bl j => cases ry; exact ne_bool (fin_bl I q (congrArg not dec_bl))
    | str j => obtain ⟨t', rfl⟩ := ry; exact PySem.EqMixed.ne_bool_str (fin_bl I q (by simp))
    | _ => exact absurd (show false = true from hs) Bool.false_ne_true
  | int i =>
    obtain ⟨t, rfl⟩ := rx
    cases y with
    | non => cases ry; exact PySem.EqNone.ne_int_none (fin_bl I q (by simp))
    | int j => obtain ⟨t', rfl⟩ := ry; exact ne_int (fin_bl I q (congrArg not dec_int))
    | str j => obtain ⟨t', rfl⟩ := ry; exact PySem.EqMixed.ne_int_str (fin_bl I q (by simp))
    | _ => exact absurd (show false = true from hs) Bool.false_ne_true
  | str i =>
    obtain ⟨t, rfl⟩ := rx
    cases y with
    | non => cases ry; exact PySem.EqNone.ne_str_none (fin_bl I q (by simp))
    | bl j => cases ry; exact PySem.EqMixed.ne_str_bool (fin_bl I q (by simp))
    | int j => obtain ⟨t', rfl⟩ := ry; exact PySem.EqMixed.ne_str_int (fin_bl I q (by simp))
    | str j => obtain ⟨t', rfl⟩ := ry; exact ne_str (fin_bl I q (congrArg not dec_str))
    | _ => exact absurd (show false = true from hs) Bool.false_ne_true
  | byt i =>
    obtain ⟨t, rfl⟩ := rx
    cases y with
    | byt j => obtain ⟨t', rfl⟩ := ry; exact PySem.W.ne_bytes (fin_bl I q (congrArg not dec_byt))
    | _ => exact absurd (show false = true from hs) Bool.false_ne_true
  | _ => cases y <;> exact absurd (show false = true from hs) Bool.false_ne_true
theorem op_lt : OpR X (compareOp .Lt) (rI0 fun i j => .bl (decide (i < j))) := opB0 fun _ _ _ _ _ _ _ q => lt_int q
theorem op_le : OpR X (compareOp .LtE) (rI0 fun i j => .bl (decide (i ≤ j))) := opB0 fun _ _ _ _ _ _ _ q => le_int q
theorem op_gt : OpR X (compareOp .Gt) (rI0 fun i j => .bl (decide (j < i))) := opB0 fun _ _ _ _ _ _ _ q => gt_int q
theorem op_ge : OpR X (compareOp .GtE) (rI0 fun i j => .bl (decide (j ≤ i))) := opB0 fun _ _ _ _ _ _ _ q => ge_int q
theorem nomark (b : Expr) {op : CmpOp} (h : op ≠ .In := by decide) (h2 : op ≠ .NotIn := by decide) : behindInMarks op b = false := by
  have e1 : (op == CmpOp.In) = false := by cases op <;> first | rfl | exact absurd rfl h
  have e2 : (op == CmpOp.NotIn) = false := by cases op <;> first | rfl | exact absurd rfl h2
  cases b <;> simp [behindInMarks, e1, e2]
/-- a comparison as a value; hm: nomark b, or (for in, not in) by with_unfolding_all rfl -/
theorem pe_cmpR {op : CmpOp} {r : R2} (ho : OpR X (compareOp op) r) (ha : PE X a ta) (hb : PE X b tb) (hm : behindInMarks op b = false) : PE X (.Compare a [op] [b] pos) (tOp r ta tb) := by
  intro pins s σ H Q I h
  exact wpAny_Compare1 (binT ha hb I h fun v u s2 x y H2 I2 rx ry q => ho pins s2 σ H2 x y v u Q I2 rx ry q) hm
/-- a reading of a value as a test -/
def tTest (t : TE) : TT := fun σ H Q => t σ H fun x H' => ∃ k, x = .bl k ∧ Q k H'
theorem pt_cmpR {op : CmpOp} {r : R2} (ho : OpR X (compareOp op) r) (ha : PE X a ta) (hb : PE X b tb) (hm : behindInMarks op b = false) : PT X (.Compare a [op] [b] pos) (tTest (tOp r ta tb)) := by
  intro pins s σ H Q I h
  refine wpAny_isTrue_Compare1 (thn (ha pins s σ H _ I h) fun v s1 ⟨x, H1, I1, r1, q1⟩ => thn (hb pins s1 σ H1 _ I1 q1) fun u s2 ⟨y, H2, I2, r2, q2⟩ =>
    thn (ho pins s2 σ H2 x y v u _ I2 r1 r2 q2) fun c s3 ⟨z, H3, I3, r3, k, e, q3⟩ => ?_) hm
  subst e
  cases r3
  exact wpAny_truthy_bool ⟨H3, I3, q3⟩
theorem line63 : (sizeLine : Nat) < 2 ^ 63 := by rw [sizeLine_eq]; decide
theorem vals1 {x : V} {us : List Value} (r : Vals [x] us) : ∃ u, us = [u] ∧ RelV x u := by
  cases r with
  | cons r1 r2 => cases r2; exact ⟨_, rfl, r1⟩
theorem vals2 {x y : V} {us : List Value} (r : Vals [x, y] us) : ∃ u w', us = [u, w'] ∧ RelV x u ∧ RelV y w' := by
  cases r with
  | cons r1 r2 =>
    cases r2 with
    | cons r3 r4 => cases r4; exact ⟨_, _, rfl, r1, r3⟩
theorem call_max2 (hc : X.calm = true) : CallR X (.builtin "max") (fun xs H Q => ∃ i j, xs = [.int i, .int j] ∧ Q (.int (if j > i then j else i)) H) := by
  intro pins s σ H xs us Q I r h
  obtain ⟨i, j, rfl, q⟩ := h
  obtain ⟨u, w', rfl, ⟨t, rfl⟩, ⟨t', rfl⟩⟩ := vals2 r
  refine max_two_ints (I.ok.hd hc) fun h' tk k => ⟨_, H, I.kept k, ?_, q⟩
  by_cases hj : j > i
  · rw [if_pos hj, if_pos hj]; exact ⟨_, rfl⟩
  · rw [if_neg hj, if_neg hj]; exact ⟨_, rfl⟩
theorem call_min2 (hc : X.calm = true) : CallR X (.builtin "min") (fun xs H Q => ∃ i j, xs = [.int i, .int j] ∧ Q (.int (if j < i then j else i)) H) := by
  intro pins s σ H xs us Q I r h
  obtain ⟨i, j, rfl, q⟩ := h
  obtain ⟨u, w', rfl, ⟨t, rfl⟩, ⟨t', rfl⟩⟩ := vals2 r
  refine min_two_ints (I.ok.hd hc) fun h' tk k => ⟨_, H, I.kept k, ?_, q⟩
  by_cases hj : j < i
  · rw [if_pos hj, if_pos hj]; exact ⟨_, rfl⟩
  · rw [if_neg hj, if_neg hj]; exact ⟨_, rfl⟩
theorem call_ord : CallR X (.builtin "ord") (fun xs H Q => ∃ x, xs = [.str x] ∧ x.length = 1 ∧ Q (.int (x.cps.getD 0 0 : Nat)) H) := by
  intro pins s σ H xs us Q I r h
  obtain ⟨x, rfl, hz, q⟩ := h
  obtain ⟨u, rfl, t, rfl⟩ := vals1 r
  exact ord_of_one hz ⟨.int _, H, I.tok _, ⟨_, rfl⟩, q⟩
end
end L2
namespace L2
open PySem PySem.Spec PyProof.Rows
structure ObjM (h : Heap) (x dx C : Addr) (mA : Str → Option Value) : Prop where
  obj : h.get? x = some (PySem.W.instObj C dx)
  ns : h.Ns1 dx mA
  ne : dx ≠ x
theorem lookIn_ns {h : Heap} {dx : Addr} {mA : Str → Option Value} (n : h.Ns1 dx mA) : ∃ od, h.get? dx = some od ∧ ∀ name, PySem.W.lookIn name od = some (mA name) := by
  obtain ⟨o, es, ep, ho, hd, hk, _, hm⟩ := n
  refine ⟨o, ho, fun name => ?_⟩
  have e := hm name
  unfold nsFind findBy at e
  rw [← Array.find?_toList] at e
  unfold PySem.W.lookIn
  rw [hd]
  dsimp only
  split
  · rename_i y q
    rw [q] at e
    exact congrArg some e
  · rename_i q
    rw [q] at e
    have a : es.toList.any (·.refKey) = false := by
      rw [List.any_eq_false]
      intro y hy
      obtain ⟨z, t, hkey⟩ := hk y (Array.mem_toList_iff.mp hy)
      simp [DictEntry.refKey, hkey]
    have a' : ¬ es.toList.any (·.refKey) = true := by rw [a]; exact Bool.false_ne_true
    rw [if_neg a']
    exact congrArg some e
theorem ObjM.look {h : Heap} {x dx C : Addr} {mA : Str → Option Value} (I : ObjM h x dx C mA) : ∃ od, PySem.W.InstAt h x (PySem.W.instObj C dx) C (some od) ∧ ∀ name, PySem.W.lookIn name od = some (mA name) :=
  let ⟨od, ho, hl⟩ := lookIn_ns I.ns
  ⟨od, ⟨I.obj, rfl, rfl, ho⟩, hl⟩
section
variable {prog : Program} {w : World} {A : Around} {E : Value → Shared → Prop} {s : Shared} {K : PySem.W.Frag} {x dx C f : Addr} {mA : Str → Option Value} {name : Str} {v : Value}
theorem get_map {expr : Bool} {Q : Value → Shared → Prop} (X : K.In s.heap) (I : ObjM s.heap x dx C mA) (hg : PySem.W.plainGet K C name = true) (hh : PySem.W.hasDictIn K C = true)
    (ha : PySem.W.findIn K (.ref C) name = some none) (hv : mA name = some v) (hv' : PySem.W.handedIn v = true) (h : Q v { s with toks := s.toks + 1 }) :
    wpAny (model prog w) A (getAttr (.ref x) name expr) Q E s := by
  obtain ⟨od, J, hl⟩ := I.look
  exact PySem.W.get_value X J (PySem.W.plainGet_of hg).1 (PySem.W.findObj_own hh ha rfl (by rw [hl, hv])) hv' h
theorem set_map {ns : List Str} {Q : Unit → Shared → Prop} (X : K.In s.heap) (I : ObjM s.heap x dx C mA)
    (hs : PySem.W.findIn K (.ref C) "__setattr__" = some (some (.builtin "object.__setattr__"))) (hp : PySem.W.plainOver K C = true) (ht : PySem.W.takerIn K C name = some none) (hh : PySem.W.hasDictIn K C = true)
    (hw : PySem.Within mA ns) (hsz : ns.length ≤ sizeLine)
    (h : ∀ h', ObjM h' x dx C (fun y => if y = name then some v else mA y) → Heap.SameBut dx s.heap h' → Q () { s with heap := h', toks := s.toks + 2 }) :
    wpAny (model prog w) A (setAttr (.ref x) name v) Q E s := by
  obtain ⟨od, J, hl⟩ := I.look
  refine PySem.W.set_plain X J hs (PySem.W.osa_open (s := { s with toks := s.toks + 1 }) (r := none) X J hp ht fun b => ?_)
  obtain ⟨cd, hc, hd'⟩ := PySem.W.any_some hh
  have hx : s.heap.get? x = some ⟨.ref C, some dx, .plain, #[]⟩ := I.obj
  refine wpAny_bind (wpAny_pure (wpAny_bind (wpAny_bind (wpAny_loadPart hx (wpAny_bind (PySem.W.Looks.here (s := { s with toks := s.toks + 1 }) (PySem.W.looks_clsIn X hc) ?_))))))
  rw [hd']
  refine wpAny_pure (a := some dx) (wpAny_bind (wpAny_pure (wpAny_bind ?_)))
  refine wpAny_nsSet1 (s := { s with toks := s.toks + 1 }) I.ns fun h' hn2 hs2 => ?_
  obtain ⟨oD, esD, epD, hoD, hdD, hcD⟩ := hn2.count (PySem.Within.cons name v hw)
  refine wpAny_bind (wpAny_lookBehind hoD (by rw [hdD]; exact pastItsLine_dict (Nat.le_trans hcD (by rw [List.length_cons]; omega))) ?_)
  exact wpAny_pure (h _ ⟨(hs2.2 _ (Ne.symm I.ne)).trans I.obj, hn2, I.ne⟩ hs2)
/-- C(..): the dict at the heap's end, the instance behind it; then its __init__ -/
theorem make_map {R : Result → Shared → Prop} {vs : List Value} {kw : List (Str × Value)} (X : K.In s.heap) (hm : PySem.W.makesIn K C = true)
    (hi : PySem.W.findIn K (.ref C) "__init__" = some (some (.ref f))) (hf : PySem.W.typeIn K (.ref f) = some (.type "function"))
    (h : codeAny (model prog w) (A.under (.builtin "type.__call__" ⟨.ref C :: vs, kw⟩)) (.call (.ref f) ⟨.ref (s.heap.objs.size + 1) :: vs, kw⟩) (PySem.W.InitBack (s.heap.objs.size + 1) R)
      { s with heap := (s.heap.push PySem.W.emptyDict).push (PySem.W.instObj C s.heap.objs.size) }) :
    codeAny (model prog w) A (.call (.ref C) ⟨vs, kw⟩) R s := by
  obtain ⟨hh, g, d, t, os⟩ := s
  exact PySem.W.make_core (PySem.W.makes_of X hm) (PySem.W.looks_findIn X hi) (fun self => PySem.W.bind_fn X self hf) (.inl rfl) h
end
def putF (f : Str) (v : V) : List (Str × V) → List (Str × V)
  | [] => [(f, v)]
  | (g, x) :: r => if g = f then (g, v) :: r else (g, x) :: putF f v r
theorem lookup_putF (f g : Str) (v : V) : ∀ fs : List (Str × V), (putF f v fs).lookup g = if g = f then some v else fs.lookup g
  | [] => by
    show List.lookup g [(f, v)] = _
    by_cases h : g = f
    · have hb : (g == f) = true := beq_iff_eq.mpr h
      simp only [List.lookup, hb, if_pos h]
    · have hb : (g == f) = false := beq_eq_false_iff_ne.mpr h
      simp only [List.lookup, hb, if_neg h]
  | (k, x) :: r => by
    have ih := lookup_putF f g v r
    rw [show putF f v ((k, x) :: r) = (if k = f then (k, v) :: r else (k, x) :: putF f v r) from rfl]
    by_cases hk : k = f
    · rw [if_pos hk]
      by_cases h : g = k
      · have hb : (g == k) = true := beq_iff_eq.mpr h
        simp only [List.lookup, hb, if_pos (h.trans hk)]
      · have hb : (g == k) = false := beq_eq_false_iff_ne.mpr h
        simp only [List.lookup, hb, if_neg (fun e : g = f => h (e.trans hk.symm))]
    · rw [if_neg hk]
      by_cases h : g = k
      · have hb : (g == k) = true := beq_iff_eq.mpr h
        simp only [List.lookup, hb, if_neg (fun e : g = f => hk (h.symm.trans e))]
      · have hb : (g == k) = false := beq_eq_false_iff_ne.mpr h
        simp only [List.lookup, hb]
        exact ih
theorem keys_putF (f : Str) (v : V) : ∀ fs : List (Str × V), f ∈ (putF f v fs).map (·.1) ∧ ∀ g, g ∈ fs.map (·.1) → g ∈ (putF f v fs).map (·.1)
  | [] => ⟨by simp [putF], fun g h => by simp at h⟩
  | (k, x) :: r => by
    obtain ⟨i1, i2⟩ := keys_putF f v r
    rw [show putF f v ((k, x) :: r) = (if k = f then (k, v) :: r else (k, x) :: putF f v r) from rfl]
    by_cases hk : k = f
    · rw [if_pos hk]
      subst hk
      exact ⟨by simp, fun g h => by simpa using h⟩
    · rw [if_neg hk]
      refine ⟨?_, fun g h => ?_⟩
      · rw [List.map_cons]
        exact List.mem_cons_of_mem _ i1
      · rw [List.map_cons] at h ⊢
        rcases List.mem_cons.mp h with e | e
        · exact List.mem_cons.mpr (.inl e)
        · exact List.mem_cons_of_mem _ (i2 g e)
theorem length_putF (f : Str) (v : V) : ∀ fs : List (Str × V), (putF f v fs).length ≤ fs.length + 1
  | [] => by simp [putF]
  | (k, x) :: r => by
    have ih := length_putF f v r
    rw [show putF f v ((k, x) :: r) = (if k = f then (k, v) :: r else (k, x) :: putF f v r) from rfl]
    by_cases hk : k = f
    · rw [if_pos hk, List.length_cons, List.length_cons]; omega
    · rw [if_neg hk, List.length_cons, List.length_cons]; omega
theorem RelO.some_of {v : V} {o : Option Value} (r : RelO (some v) o) : ∃ u, o = some u ∧ RelV v u := by
  cases o with
  | none => exact (show False from r).elim
  | some u => exact ⟨u, rfl, r⟩
theorem handed_of {v : V} {u : Value} (r : RelV v u) : PySem.W.handedIn u = true := by
  cases v with
  | non => cases (show u = Value.none from r); rfl
  | bl b => cases (show u = Value.bool b from r); rfl
  | int i => obtain ⟨t, e⟩ := (show ∃ t, u = Value.int i t from r); cases e; rfl
  | str x => obtain ⟨t, e⟩ := (show ∃ t, u = Value.str x t from r); cases e; rfl
  | byt b => obtain ⟨t, e⟩ := (show ∃ t, u = Value.bytes b t from r); cases e; rfl
  | flt b => obtain ⟨t, e⟩ := (show ∃ t, u = Value.float b t from r); cases e; rfl
  | ref a => cases (show u = Value.ref a from r); rfl
  | ty n => cases (show u = Value.type n from r); rfl
section
variable {P : Program} {w : World} {H H' : Hp} {h h' : Heap} {a C dx : Addr} {fs fs' : List (Str × V)}
theorem ins_get (hok : HOk P w H h) (e : H a = some (.ins C dx fs)) : ∃ mA, ObjM h a dx C mA ∧ (∀ f, RelO (fs.lookup f) (mA f)) ∧ PySem.Within mA (fs.map (·.1)) ∧ fs.length ≤ 1000 ∧ H dx = some (.own a) := by
  obtain ⟨d, z, ne, ob, mA, n, r, q⟩ := (show ObjOk P w H h a (.ins C dx fs) from hok a _ e)
  exact ⟨mA, ⟨ob, n, ne⟩, r, q, z, d⟩
end
structure Cls (K : PySem.W.Frag) (C : Addr) : Prop where
  pg : PySem.W.plainGet K C Str.empty = true
  hd : PySem.W.hasDictIn K C = true
  po : PySem.W.plainOver K C = true
  sa : PySem.W.findIn K (.ref C) "__setattr__" = some (some (.builtin "object.__setattr__"))
theorem Cls.get {K : PySem.W.Frag} {C : Addr} (c : Cls K C) (f : Str) : PySem.W.plainGet K C f = true := c.pg
/-- no class of it has the name -/
def NoAttr (K : PySem.W.Frag) (C : Addr) (f : Str) : Prop := PySem.W.findIn K (.ref C) f = some none
theorem NoAttr.taker {K : PySem.W.Frag} {C : Addr} {f : Str} (n : NoAttr K C f) : PySem.W.takerIn K C f = some none := by
  unfold PySem.W.takerIn
  rw [show PySem.W.findIn K (.ref C) f = some none from n]
  rfl
section
variable {X : Cx} {pins : List (Addr × Obj)} {σ : St} {H : Hp} {s : Shared} {a C dx : Addr} {fs : List (Str × V)} {f : Str} {v : V} {A : Around} {E : Value → Shared → Prop}
theorem getattr_ok {b : Bool} {Q : Value → Shared → Prop} (I : Inv X pins σ H s) (e : H a = some (.ins C dx fs)) (c : Cls X.K C) (n : NoAttr X.K C f) (l : fs.lookup f = some v)
    (h : ∀ u s', Inv X pins σ H s' → RelV v u → Q u s') : wpAny (model X.prog X.w) A (getAttr (.ref a) f b) Q E s := by
  obtain ⟨mA, O, r, _, _, _⟩ := ins_get I.hok e
  obtain ⟨u, hu, ru⟩ := RelO.some_of (v := v) (o := mA f) (by rw [← l]; exact r f)
  exact get_map I.kIn O (c.get f) c.hd n hu (handed_of ru) (h u _ (I.tok _) ru)
theorem setattr_ok {y : V} {u : Value} {Q : Unit → Shared → Prop} (I : Inv X pins σ H s) (e : H a = some (.ins C dx fs)) (c : Cls X.K C) (n : NoAttr X.K C f) (hl : fs.length < 1000) (ry : RelV y u)
    (h : ∀ s', Inv X pins σ (upd H a (.ins C dx (putF f y fs))) s' → Q () s') : wpAny (model X.prog X.w) A (setAttr (.ref a) f u) Q E s := by
  obtain ⟨mA, O, r, wi, _, ho⟩ := ins_get I.hok e
  have hz : (fs.map (·.1)).length ≤ sizeLine := by rw [List.length_map, sizeLine_eq]; omega
  refine set_map I.kIn O c.sa c.po n.taker c.hd wi hz fun h' O' sb => h _ ?_
  have hd : ∃ o, h'.get? dx = some o := let ⟨o, _, _, e', _⟩ := O'.ns; ⟨o, e'⟩
  refine I.write (x := a) (e := dx) (by rw [e]; exact True.intro) (.inr ho) (fun b q hb z => (sb.2 b hb).trans z) hd ?_
  refine ⟨by rw [upd_ne O.ne]; exact ho, ?_, O.ne, O'.obj, _, O'.ns, fun g => ?_, fun g hg => ?_⟩
  · have := length_putF f y fs; omega
  · show RelO ((putF f y fs).lookup g) (if g = f then some u else mA g)
    rw [lookup_putF]
    by_cases q : g = f
    · rw [if_pos q, if_pos q]; exact ry
    · rw [if_neg q, if_neg q]; exact r g
  · by_cases q : g = f
    · rw [q]; exact (keys_putF f y fs).1
    · refine (keys_putF f y fs).2 g (wi g fun z => hg ?_)
      show (if g = f then some u else mA g) = none
      rw [if_neg q]; exact z
/-- a new instance, tracked, without attributes -/
theorem Inv.made (I : Inv X pins σ H s) : Inv X pins σ (upd (upd H s.heap.objs.size (.own (s.heap.objs.size + 1))) (s.heap.objs.size + 1) (.ins C s.heap.objs.size []))
    { s with heap := (s.heap.push PySem.W.emptyDict).push (PySem.W.instObj C s.heap.objs.size) } := by
  have e1 : (s.heap.push PySem.W.emptyDict).get? s.heap.objs.size = some PySem.W.emptyDict := Heap.get?_push_size s.heap rfl
  have e2 : ((s.heap.push PySem.W.emptyDict).push (PySem.W.instObj C s.heap.objs.size)).get? (s.heap.objs.size + 1) = some (PySem.W.instObj C s.heap.objs.size) := by
    have := Heap.get?_push_size (s.heap.push PySem.W.emptyDict) (o := PySem.W.instObj C s.heap.objs.size) rfl
    rwa [Heap.size_push] at this
  have e3 : (s.heap.push PySem.W.emptyDict).Ns s.heap.objs.size (fun _ => none) := ⟨PySem.W.emptyDict, #[], _, e1, rfl, (fun e he => absurd he (by simp)), fun _ => rfl⟩
  have I1 := I.laid (a := s.heap.objs.size) (o := .own (s.heap.objs.size + 1)) (h' := s.heap.push PySem.W.emptyDict) (t' := s.toks) (fun b u q => Heap.get?_push_of_some _ q) (Nat.le_refl _) ⟨_, e1⟩
  refine I1.laid (a := s.heap.objs.size + 1) (o := .ins C s.heap.objs.size []) (t' := s.toks) (fun b u q => Heap.get?_push_of_some _ q) (Nat.le_of_eq (Heap.size_push _ _)) ?_
  have ne : s.heap.objs.size ≠ s.heap.objs.size + 1 := Nat.ne_of_lt (Nat.lt_succ_self _)
  refine ⟨by rw [upd_ne ne, upd_same], Nat.zero_le _, ne, e2, fun _ => none, (Heap.Ns1.of_empty e3).at fun o q => Heap.get?_push_of_some _ q, fun _ => True.intro, fun y hy => absurd rfl hy⟩
/-- e.f where nothing but the object is asked: through attributeBase (super) and the last hold -/
theorem attr_of {prog : Program} {w : World} {env : Env} {e : Expr} {f : Str} {pos : Pos} {s : Shared} {Q : Value → Shared → Prop} (hb : attributeBase e f env (eval e env) = eval e env)
    (h : wpAny (model prog w) A (eval e env) (fun o s₁ => wpAny (model prog w) A (getAttr o f true) Q E s₁) E s) : wpAny (model prog w) A (eval (.Attribute e f pos) env) Q E s :=
  Attribute_any_ h (by rw [arm_eval_Attribute, hb])
end
/-- e.f, an attribute of the instance -/
def tFld (K : PySem.W.Frag) (ta : TE) (f : Str) : TE := fun σ H Q => ta σ H fun x H1 => ∃ a C dx fs v, x = .ref a ∧ H1 a = some (.ins C dx fs) ∧ Cls K C ∧ NoAttr K C f ∧ fs.lookup f = some v ∧ Q v H1
/-- e.f = value -/
def sFld (K : PySem.W.Frag) (ta tv : TE) (f : Str) : TS := fun D σ H => tv σ H fun y H1 => ta σ H1 fun x H2 => ∃ a C dx fs, x = .ref a ∧ H2 a = some (.ins C dx fs) ∧ Cls K C ∧ NoAttr K C f ∧ fs.length < 1000 ∧
  D.nx σ (upd H2 a (.ins C dx (putF f y fs)))
section
variable {X : Cx} {o e value : Expr} {f : Str} {pos pos' tpos : Pos} {ta tv : TE}
theorem pe_fld (he : PE X e ta) (hb : attributeBase e f X.env (eval e X.env) = eval e X.env) : PE X (.Attribute e f pos) (tFld X.K ta f) := by
  intro pins s σ H Q I h
  refine attr_of hb (thn (he pins s σ H _ I h) fun u s1 ⟨x, H1, I1, rx, a, C, dx, fs, v, ex, ea, c, n, l, q⟩ => ?_)
  subst ex
  obtain rfl : u = Value.ref a := rx
  exact getattr_ok I1 ea c n l fun u' s2 I2 ru => ⟨v, H1, I2, ru, q⟩
theorem ps_fld (ha : PE X o ta) (hv : PE X value tv) (hs : swapsWith value (some (.Attribute o f pos')) pos.line X.env = pure false) : PS X (.Assign [.Attribute o f pos'] value pos) (sFld X.K ta tv f) := by
  intro pins s σ H D I h
  refine plainObj_wpAny_Assign_Attribute (thn (hv pins s σ H _ I h) fun u s1 ⟨y, H1, I1, ry, q⟩ => thn (ha pins s1 σ H1 _ I1 q) fun ov s2 ⟨x, H2, I2, rx, a, C, dx, fs, ex, ea, c, n, l, q2⟩ => ?_) hs
  subst ex
  obtain rfl : ov = Value.ref a := rx
  exact setattr_ok I2 ea c n l ry fun s3 I3 => ⟨σ, _, I3, q2⟩
end
section
variable {X : Cx} {pins : List (Addr × Obj)} {σ : St} {H : Hp} {s : Shared} {A : Around} {E : Value → Shared → Prop} {Q : Value → Shared → Prop} {c : Value} {b : Bool}
end
end L2
namespace L2
open PySem PySem.Spec PyProof.Rows
structure Room (k : Nat) (A : Around) : Prop where
  hd : A.handled = none
  dp : A.depth + 3 * k + 5 < recursionLimit
  un : A.units + 16 * k + 200 < cLine
theorem Room.mono {j k : Nat} {A : Around} (r : Room k A) (h : j ≤ k) : Room j A := ⟨r.hd, by have := r.dp; omega, by have := r.un; omega⟩
theorem Room.deeper {k : Nat} {A : Around} (r : Room (k + 1) A) (env : Env) : Room k (A.deeper env) :=
  ⟨r.hd, by have := r.dp; show A.depth + 1 + 3 * k + 5 < _; omega, by have := r.un; show A.units + 3 + 16 * k + 200 < _; omega⟩
theorem make_depth {A : Around} {C : Addr} {us : List Value} {kw : List (Str × Value)} : (A.under (.builtin "type.__call__" ⟨.ref C :: us, kw⟩)).depth = A.depth + 1 := by
  first | rfl | simp [Around.under, Code.weight, Code.isCreation, Code.isGuard, Code.isCaller, Code.frames, Code.isFrame, guardIds]
theorem make_units {A : Around} {C : Addr} {us : List Value} {kw : List (Str × Value)} : (A.under (.builtin "type.__call__" ⟨.ref C :: us, kw⟩)).units = A.units + 1 := by
  first | rfl | simp [Around.under, Code.cUnits, Code.frames, Code.isFrame]
theorem Room.make {k : Nat} {A : Around} (r : Room (k + 1) A) (C : Addr) (us : List Value) (kw : List (Str × Value)) : Room k (A.under (.builtin "type.__call__" ⟨.ref C :: us, kw⟩)) :=
  ⟨r.hd, by have := r.dp; rw [make_depth]; omega, by have := r.un; rw [make_units]; omega⟩
theorem Room.depth {k : Nat} {A : Around} (r : Room k A) : A.depth < recursionLimit := by have := r.dp; omega
theorem Room.units {k : Nat} {A : Around} (r : Room k A) : A.units + 64 < cLine := by have := r.un; omega
def tNil : TA := fun _ H Q => Q [] H
def tCons (ta : TE) (tr : TA) : TA := fun σ H Q => ta σ H fun x H1 => tr σ H1 fun xs H2 => Q (x :: xs) H2
section
variable {X : Cx} {e : Expr} {es : List Expr} {te : TE} {t : TA} {pos : Pos}
theorem pa_nil : PA X [] tNil := fun _ _ _ _ H Q I h => Calls.spliced_nil ⟨[], H, I, .nil, h⟩
theorem pa_cons (ha : PE X e te) (hr : PA X es t) (hs : starEach (e :: es) X.env = (false, eval e X.env) :: starEach es X.env := by rfl) : PA X (e :: es) (tCons te t) := by
  intro pos pins s σ H Q I h
  rw [hs]
  show wpAny _ _ (spliced ((false, eval e X.env) :: backTo pos (starEach es X.env))) _ _ s
  refine Calls.spliced_cons (thn (ha pins s σ H _ I h) fun u s1 ⟨x, H1, I1, r1, q1⟩ => ?_)
  exact thn (hr pos pins s1 σ H1 _ I1 q1) fun us s2 ⟨xs, H2, I2, r2, q2⟩ => ⟨x :: xs, H2, I2, .cons r1 r2, q2⟩
def tLst (t : TA) : TE := fun σ H Q => t σ H fun xs H1 => xs.length ≤ sizeLine ∧ ∀ p, H1 p = none → Q (.ref p) (upd H1 p (.lst xs))
theorem pe_lst (h : PA X es t) : PE X (.List es pos) (tLst t) := by
  intro pins s σ H Q I hq
  refine wpAny_List_spliced (thn (h pos pins s σ H _ I hq) fun us s1 ⟨xs, H1, I1, r, z, q⟩ => ⟨by rw [← r.length]; exact z, ?_⟩)
  have hf : H1 s1.heap.objs.size = none := I1.hok.fresh (Nat.le_refl _)
  refine ⟨.ref s1.heap.objs.size, upd H1 s1.heap.objs.size (.lst xs), I1.laid (t' := s1.toks) (fun b u e => Heap.get?_push_of_some _ e) (Nat.le_refl _) ?_, rfl, q _ hf⟩
  exact ⟨z, us, 0, r, Heap.get?_push_size _ rfl⟩
end
/-- a def's promise: the bound arguments in the parameters' order, the heap, the wanted end, the wanted exception -/
abbrev Sp := List V → Hp → VK → XK → Prop
/-- how an exception lies behind a call (file 08 gives it): the callers' frames, abstract heap and state ahead of the call, the wish, the exception, the state -/
abbrev CXT := List Env → Hp → Shared → XK → Value → Shared → Prop
/-- the state at a call -/
structure Env0 (P : Program) (w : World) (K : PySem.W.Frag) (mg : Str → Option Value) (base : Heap) (A : Around) (outer : List Env) (s : Shared) (H : Hp) : Prop where
  frames : A.frames = some outer
  mod : Mod K mg base
  bs : ∀ b o, base.get? b = some o → s.heap.get? b = some o ∧ H b = none
  bsz : base.objs.size ≤ s.heap.objs.size
  funs : s.heap.FunFrames base outer
  frf : ∀ b ∈ frs outer, H b = none
  hok : HOk P w H s.heap
  bare : AllBare s.gens
/-- a call's end -/
def CE (outer : List Env) (P : Program) (w : World) (H : Hp) (s : Shared) (Q : VK) (u : Value) (s' : Shared) : Prop :=
  ∃ v H', s'.os = s.os ∧ AllBare s'.gens ∧ Un (frs outer) [] H H' s.heap s'.heap ∧ HOk P w H' s'.heap ∧ RelV v u ∧ Q v H'
def CR (CX : CXT) (outer : List Env) (P : Program) (w : World) (H : Hp) (s : Shared) (Q : VK) (E : XK) (r : Result) (s' : Shared) : Prop :=
  match r with
  | .ok (.ret u) => CE outer P w H s Q u s'
  | .ok _ => False
  | .error e => CX outer H s E e s'
structure FnOk (P : Program) (w : World) (K : PySem.W.Frag) (mg : Str → Option Value) (base : Heap) (CX : CXT) (k : Nat) (f : Addr) (fd : FuncData) (ps : List Str) (sp : Sp) : Prop where
  len : ∀ vs H Q E, sp vs H Q E → vs.length = ps.length
  run : ∀ (A : Around) (outer : List Env) (s : Shared) (H : Hp) (args : Args) (us : List Value) (vs : List V) (Q : VK) (E : XK), Room k A → Env0 P w K mg base A outer s H → BindsTo s fd args (ps.zip us) → Vals vs us → sp vs H Q E →
    codeAny (model P w) A (.call (.ref f) args) (CR CX outer P w H s Q E) s
theorem Env0.make {P : Program} {w : World} {K : PySem.W.Frag} {mg : Str → Option Value} {base : Heap} {A : Around} {outer : List Env} {s : Shared} {H : Hp} (e : Env0 P w K mg base A outer s H) (C : Addr) (us : List Value) (kw : List (Str × Value)) :
    Env0 P w K mg base (A.under (.builtin "type.__call__" ⟨.ref C :: us, kw⟩)) outer s H := ⟨by first | exact e.frames | (simpa [Around.under, Code.envs, Code.isFrame, pushEnvs] using e.frames), e.mod, e.bs, e.bsz, e.funs, e.frf, e.hok, e.bare⟩
section
variable {X : Cx} {pins : List (Addr × Obj)} {σ : St} {H : Hp} {s s' : Shared}
/-- from a body: what a callee wants -/
theorem Inv.env0 (I : Inv X pins σ H s) : Env0 X.prog X.w X.K X.mg X.base X.A X.stack s H :=
  ⟨I.ok.frames, I.ok.mod, I.bs, Nat.le_trans I.ok.bsz I.sz, I.stack, I.stkFree, I.hok, I.bare⟩
/-- behind a call -/
theorem Inv.after {Q : VK} {u : Value} (I : Inv X pins σ H s) (h : CE X.stack X.prog X.w H s Q u s') : EP X pins σ Q u s' := by
  obtain ⟨v, H', os, bare, un, hok, r, q⟩ := h
  obtain ⟨hh, g, d, t, os'⟩ := s'
  obtain rfl : os' = s.os := os
  exact ⟨v, H', I.call (h' := hh) (g' := g) (d' := d) (t' := t) (ch := []) un hok bare (fun b z => absurd z (by simp)), r, q⟩
end
/-- f(..): the written arguments, then the defaults dvs; E: what is wanted of an exception -/
def tCall (sp : Sp) (dvs : List V) (E : XK) (t : TA) : TE := fun σ H Q => t σ H fun vs H1 => sp (vs ++ dvs) H1 Q E
/-- C(..): a new instance and its dict, then __init__ -/
def tMake (C : Addr) (sp : Sp) (dvs : List V) (E : XK) (t : TA) : TE := fun σ H Q => t σ H fun vs H1 => ∀ x dx, H1 x = none → H1 dx = none → dx ≠ x →
  sp (.ref x :: (vs ++ dvs)) (upd (upd H1 dx (.own x)) x (.ins C dx [])) (fun v H2 => v = .non ∧ Q (.ref x) H2) E
/-- how the parameters are bound: us the positional arguments, kw the keywords' values by name, ds the defaults that fill up -/
def Binds (K : PySem.W.Frag) (fd : FuncData) (ps : List Str) (ds : List Value) : Prop :=
  ∀ (s : Shared) (us : List Value), K.In s.heap → (us ++ ds).length = ps.length → BindsTo s fd ⟨us, []⟩ (ps.zip (us ++ ds))
/-- every parameter is given -/
theorem Binds.all {K : PySem.W.Frag} {fd : FuncData} {ps : List Str} (h : ∀ us : List Value, us.length = ps.length → bindArgs fd ⟨us, []⟩ = pure (ps.zip us)) : Binds K fd ps [] := fun s us _ hl => by
  rw [List.append_nil] at hl ⊢
  exact .of_eq (h us hl)
/-- an exception of a callee reaches what this body wants of exceptions -/
def Passes (CX : CXT) (X : Cx) (E : XK) : Prop := ∀ (pins : List (Addr × Obj)) (σ : St) (H : Hp) (s : Shared) (e : Value) (s' : Shared), Inv X pins σ H s → CX X.stack H s E e s' → X.xe e s'
section
variable {X : Cx} {CX : CXT} {k : Nat} {f C : Addr} {fd : FuncData} {ps : List Str} {sp : Sp} {dvs : List V} {ds : List Value} {E : XK} {x m : Str} {p pos apos : Pos} {e o : Expr} {es : List Expr} {ta : TE} {t : TA}
/-- the callee runs -/
theorem run_fn {pins : List (Addr × Obj)} {σ : St} {H : Hp} {s : Shared} {Q : VK} {us : List Value} {vs : List V} (F : FnOk X.prog X.w X.K X.mg X.base CX k f fd ps sp) (hr : Room k X.A) (hb : Binds X.K fd ps ds) (hd : Vals dvs ds) (hx : Passes CX X E)
    (I : Inv X pins σ H s) (r : Vals vs us) (h : sp (vs ++ dvs) H Q E) : wpAny (model X.prog X.w) X.A (call (.ref f) us) (EP X pins σ Q) X.xe s := by
  have r2 : Vals (vs ++ dvs) (us ++ ds) := r.append hd
  have hl : (us ++ ds).length = ps.length := by rw [← r2.length]; exact F.len _ _ _ _ h
  refine wpAny_call (codeAny_mono (F.run X.A X.stack s H ⟨us, []⟩ (us ++ ds) (vs ++ dvs) Q E hr I.env0 (hb s us I.kIn hl) r2 h) fun r s' hq => ?_)
  cases r with
  | error e => exact hx pins σ H s e s' I hq
  | ok fl =>
    cases fl with
    | ret u => exact I.after hq
    | next => exact False.elim hq
    | brk => exact False.elim hq
    | cont => exact False.elim hq
theorem pe_call (F : FnOk X.prog X.w X.K X.mg X.base CX k f fd ps sp) (hr : Room k X.A) (hg : Gl X x) (hm : X.mg x = some (.ref f)) (hk : PySem.W.keepIn X.K (.ref f) = true) (hb : Binds X.K fd ps ds) (hd : Vals dvs ds) (hx : Passes CX X E)
    (ha : PA X (e :: es) t) (hdb : (x == ("__debug__" : Str)) = false := by decide) (he : starEach (e :: es) X.env = (false, eval e X.env) :: starEach es X.env := by rfl) (hpl : (backTo pos (starEach es X.env)).any (·.1) = false := by rfl) :
    PE X (.Call (.Name x p) (e :: es) [] pos) (tCall sp dvs E t) := by
  intro pins s σ H Q I h
  refine wpAny_Call_Name_kw (ld_glob I hg hm ?_ hdb)
  refine PySem.W.callWith_K (h₀ := X.base) I.ok.mod.kin hk (thn (ha pos pins s σ H _ I h) fun us s1 ⟨vs, H1, I1, r, q⟩ => ⟨I1.kIn, ?_⟩) he hpl
  exact run_fn F hr hb hd hx I1 r q
/-- what a class must have to be made -/
structure Mk (K : PySem.W.Frag) (C f : Addr) : Prop where
  makes : PySem.W.makesIn K C = true
  init : PySem.W.findIn K (.ref C) "__init__" = some (some (.ref f))
  fn : PySem.W.isFn K (.ref f) = true
  kp : PySem.W.keepIn K (.ref C) = true
theorem run_make {pins : List (Addr × Obj)} {σ : St} {H : Hp} {s : Shared} {Q : VK} {us : List Value} {vs : List V} (M : Mk X.K C f) (F : FnOk X.prog X.w X.K X.mg X.base CX k f fd ps sp) (hr : Room (k + 1) X.A) (hb : Binds X.K fd ps ds) (hd : Vals dvs ds)
    (hx : Passes CX X E) (I : Inv X pins σ H s) (r : Vals vs us)
    (h : ∀ x dx, H x = none → H dx = none → dx ≠ x → sp (.ref x :: (vs ++ dvs)) (upd (upd H dx (.own x)) x (.ins C dx [])) (fun v H2 => v = .non ∧ Q (.ref x) H2) E) :
    wpAny (model X.prog X.w) X.A (call (.ref C) us) (EP X pins σ Q) X.xe s := by
  have hq := h (s.heap.objs.size + 1) s.heap.objs.size (I.hok.fresh (Nat.le_succ _)) (I.hok.fresh (Nat.le_refl _)) (Nat.ne_of_lt (Nat.lt_succ_self _))
  have I2 := Inv.made (C := C) I
  have r2 : Vals (V.ref (s.heap.objs.size + 1) :: (vs ++ dvs)) (Value.ref (s.heap.objs.size + 1) :: (us ++ ds)) := .cons rfl (r.append hd)
  have hl : (Value.ref (s.heap.objs.size + 1) :: us ++ ds).length = ps.length := by
    have e := r2.length
    rw [F.len _ _ _ _ hq] at e
    exact e.symm
  refine wpAny_call (make_map (f := f) I.kIn M.makes M.init (beq_iff_eq.mp M.fn) (codeAny_mono (F.run _ X.stack _ _ ⟨Value.ref (s.heap.objs.size + 1) :: us, []⟩ (Value.ref (s.heap.objs.size + 1) :: (us ++ ds)) _ _ E (hr.make C us [])
    (I2.env0.make C us []) (hb _ (Value.ref (s.heap.objs.size + 1) :: us) I2.kIn hl) r2 hq) fun r s' hq' => ?_))
  cases r with
  | error e => exact hx pins σ _ _ e s' I2 hq'
  | ok fl =>
    cases fl with
    | ret u =>
      obtain ⟨v, H', I3, rv, ev, q3⟩ := I2.after hq'
      subst ev
      exact ⟨rv, ⟨V.ref (s.heap.objs.size + 1), H', I3, rfl, q3⟩⟩
    | next => exact False.elim hq'
    | brk => exact False.elim hq'
    | cont => exact False.elim hq'
theorem pe_make (M : Mk X.K C f) (F : FnOk X.prog X.w X.K X.mg X.base CX k f fd ps sp) (hr : Room (k + 1) X.A) (hg : Gl X x) (hm : X.mg x = some (.ref C)) (hb : Binds X.K fd ps ds) (hd : Vals dvs ds) (hx : Passes CX X E)
    (ha : PA X (e :: es) t) (hdb : (x == ("__debug__" : Str)) = false := by decide) (he : starEach (e :: es) X.env = (false, eval e X.env) :: starEach es X.env := by rfl) (hpl : (backTo pos (starEach es X.env)).any (·.1) = false := by rfl) :
    PE X (.Call (.Name x p) (e :: es) [] pos) (tMake C sp dvs E t) := by
  intro pins s σ H Q I h
  refine wpAny_Call_Name_kw (ld_glob I hg hm ?_ hdb)
  refine PySem.W.callWith_K (h₀ := X.base) I.ok.mod.kin M.kp (thn (ha pos pins s σ H _ I h) fun us s1 ⟨vs, H1, I1, r, q⟩ => ⟨I1.kIn, ?_⟩) he hpl
  exact run_make M F hr hb hd hx I1 r q
end
section
variable {X : Cx} {CX : CXT} {k : Nat} {f C : Addr} {fd : FuncData} {ps ks : List Str} {sp : Sp} {E : XK} {x m : Str} {p pos apos kpos : Pos} {e o : Expr} {es : List Expr} {kws : List Keyword} {te ta : TE} {t tk : TA} {nm : Option Str}
variable {g : List Value → List Value → List Value} {gV : List V → List V → List V}
end
/-- names: the parameters first -/
structure FnScope (N P : List Str) (sc : Scope) : Prop where
  kind : sc.kind = .function
  co : sc.isCoroutine = false
  gen : sc.isGenerator = false
  nd : N.Nodup
  pre : N.take P.length = P
  par : ∀ x ∈ P, sc.names.lookup x = some .local ∨ sc.names.lookup x = some .cell
  nofree : ∀ y ∈ sc.names, y.2 ≠ .free
theorem bindL_out {kindOf : Str → Option NameKind} {x : Str} : ∀ {binds : List (Str × Value)} {m : Str → Option Value}, (∀ v, (x, v) ∉ binds) → bindL kindOf binds m x = m x
  | [], _, _ => rfl
  | (n, v) :: r, m, h => by
    unfold bindL
    rw [bindL_out fun w hw => h w (List.mem_cons_of_mem _ hw)]
    split
    · have : x ≠ n := by rintro rfl; exact h v List.mem_cons_self
      simp [this]
    · rfl
theorem bindC_out {kindOf : Str → Option NameKind} {x : Str} : ∀ {binds : List (Str × Value)} {m : Str → Option Value}, (∀ v, (x, v) ∉ binds) → bindC kindOf binds m x = m x
  | [], _, _ => rfl
  | (n, v) :: r, m, h => by
    unfold bindC
    rw [bindC_out fun w hw => h w (List.mem_cons_of_mem _ hw)]
    split
    · rfl
    · have : x ≠ n := by rintro rfl; exact h v List.mem_cons_self
      simp [this]
theorem bindL_get {kindOf : Str → Option NameKind} {x : Str} {v : Value} : ∀ {P : List Str} {vs : List Value} {i : Nat} {m : Str → Option Value}, P.Nodup → P[i]? = some x → vs[i]? = some v → kindOf x = some .local →
    bindL kindOf (P.zip vs) m x = some v
  | [], _, _, _, _, h, _, _ => by simp at h
  | _ :: _, [], _, _, _, _, h, _ => by simp at h
  | p :: P, w :: vs, 0, m, nd, h1, h2, hk => by
    simp at h1 h2; subst h1; subst h2
    show bindL kindOf ((p, w) :: P.zip vs) m p = _
    unfold bindL
    rw [bindL_out fun v hv => (List.nodup_cons.mp nd).1 (List.of_mem_zip hv).1, if_pos hk]
    simp
  | p :: P, w :: vs, i + 1, m, nd, h1, h2, hk => by
    show bindL kindOf ((p, w) :: P.zip vs) m x = _
    unfold bindL
    exact bindL_get (i := i) (List.nodup_cons.mp nd).2 (by simpa using h1) (by simpa using h2) hk
theorem bindC_get {kindOf : Str → Option NameKind} {x : Str} {v : Value} : ∀ {P : List Str} {vs : List Value} {i : Nat} {m : Str → Option Value}, P.Nodup → P[i]? = some x → vs[i]? = some v → kindOf x ≠ some .local →
    bindC kindOf (P.zip vs) m x = some v
  | [], _, _, _, _, h, _, _ => by simp at h
  | _ :: _, [], _, _, _, _, h, _ => by simp at h
  | p :: P, w :: vs, 0, m, nd, h1, h2, hk => by
    simp at h1 h2; subst h1; subst h2
    show bindC kindOf ((p, w) :: P.zip vs) m p = _
    unfold bindC
    rw [bindC_out fun v hv => (List.nodup_cons.mp nd).1 (List.of_mem_zip hv).1, if_neg hk]
    simp
  | p :: P, w :: vs, i + 1, m, nd, h1, h2, hk => by
    show bindC kindOf ((p, w) :: P.zip vs) m x = _
    unfold bindC
    exact bindC_get (i := i) (List.nodup_cons.mp nd).2 (by simpa using h1) (by simpa using h2) hk
/-- the names' values at the entry -/
def start (N : List Str) (vs : List V) : St := vs.map some ++ List.replicate (N.length - vs.length) none
/-- the context of a def's body, at its entry; an exception leaves the frame, then lies as CX says -/
def cxOf (CX : CXT) (P : Program) (w : World) (K : PySem.W.Frag) (mg : Str → Option Value) (base : Heap) (N : List Str) (qual : Str) (scope : Scope) (f : Addr) (cd : Value) (A : Around) (outer : List Env) (s : Shared) (H : Hp) (E : XK) : Cx where
  prog := P
  w := w
  K := K
  mg := mg
  base := base
  A := A.deeper (envOfC qual scope s.heap.objs.size f cd)
  N := N
  s_0 := s
  H_0 := H
  env := envOfC qual scope s.heap.objs.size f cd
  outer := outer
  stack := envOfC qual scope s.heap.objs.size f cd :: outer
  ex := []
  calm := true
  fn := fun _ => true
  pn := []
  xe := fun e s' => wpAny (model P w) (A.deeper (envOfC qual scope s.heap.objs.size f cd)) (leaving (envOfC qual scope s.heap.objs.size f cd) e) (fun _ s'' => CX outer H s E e s'') (fun e' s'' => CX outer H s E e' s'') s'
theorem cell_has {sc : Scope} {n : Nat} {x : Str} (h : sc.names.lookup x = some .cell) : ∃ c, (cellsFrom n sc.names []).lookup x = some c := by
  have q := PySem.W.cellsFrom_some sc.names n [] (.inl h)
  exact Option.isSome_iff_exists.mp q
theorem inv_start {CX : CXT} {P : Program} {w : World} {K : PySem.W.Frag} {mg : Str → Option Value} {base : Heap} {N ps : List Str} {qual : Str} {scope : Scope} {f : Addr} {cd : Value} {A : Around} {outer : List Env} {s s1 : Shared} {H : Hp} {E : XK} {us : List Value} {vs : List V}
    (S : FnScope N ps scope) (hd : A.handled = none) (e0 : Env0 P w K mg base A outer s H) (hl : vs.length = ps.length) (r : Vals vs us)
    (x : InCallC s s.heap.objs.size (bindL (envOfC qual scope s.heap.objs.size f cd).kindOf (ps.zip us) fun _ => none) (cellsFrom (s.heap.objs.size + 1) scope.names []) (bindC (envOfC qual scope s.heap.objs.size f cd).kindOf (ps.zip us) fun _ => none) s1) :
    Inv (cxOf CX P w K mg base N qual scope f cd A outer s H E) [] (start N vs) H s1 := by
  have hpl : ps.length ≤ N.length := by have := congrArg List.length S.pre; rw [List.length_take] at this; omega
  obtain ⟨h1, tk, rfl, hk⟩ := x.done
  have noA : ∀ b : Addr, b ∉ (cxOf CX P w K mg base N qual scope f cd A outer s H E).ex := fun b z => absurd (show b ∈ ([] : List Addr) from z) (by simp)
  refine ⟨⟨e0.mod, S.kind, rfl, rfl, Nat.le_refl _, fun y z c h1 h2 => ?_, fun y hy => ?_, fun y c _ h => ?_, fun _ => hd, Around.frames_deeper e0.frames, .inr ⟨rfl, rfl⟩, fun b z => absurd z (noA b), e0.bs, e0.bsz, fun b _ _ => noA b, fun b z => absurd z (noA b), e0.funs, e0.frf⟩,
    rfl, e0.bare, Un.kept hk, ⟨_, x.toInCall.ns, fun i y v h1 h2 h3 => ?_⟩, fun y c h => ⟨_, x.cell y c h⟩, e0.hok.fresh (Nat.le_refl _), fun y c h => ?_, fun p hp => absurd (show p ∈ ([] : List (Addr × Obj)) from hp) (by simp), e0.hok.kept hk, ?_⟩
  · exact name_of_addr x.apart (PySem.mem_of_lookup h1) (PySem.mem_of_lookup h2)
  · have hy : scope.names.lookup y = some .cell ∨ scope.names.lookup y = some .free := hy
    rcases hy with hy | hy
    · exact cell_has hy
    · exact absurd rfl (S.nofree _ (PySem.mem_of_lookup hy))
  · exact Nat.le_of_lt (x.above y c (PySem.mem_of_lookup h))
  · have hi : i < vs.length := by
      unfold start at h2
      by_cases hi : i < vs.length
      · exact hi
      · rw [List.getElem?_append_right (by simpa using hi)] at h2
        rw [List.getElem?_replicate] at h2
        split at h2 <;> cases h2
    have ha : vs[i]? = some v := by
      unfold start at h2
      rw [List.getElem?_append_left (by simpa using hi), List.getElem?_map] at h2
      cases e : vs[i]? with
      | none => rw [e] at h2; cases h2
      | some a => rw [e] at h2; cases h2; rfl
    obtain ⟨u, hu, rv⟩ := r.get ha
    have hp : ps[i]? = some y := by
      rw [← S.pre, List.getElem?_take_of_lt (by omega)]; exact h1
    have ndP : ps.Nodup := by rw [← S.pre]; exact S.nd.sublist (List.take_sublist _ _)
    refine ⟨u, rv, ?_⟩
    rcases S.par y (List.mem_of_getElem? hp) with k | k
    · exact .inl ⟨k, bindL_get ndP hp hu k⟩
    · obtain ⟨c, e⟩ := cell_has (n := s.heap.objs.size + 1) k
      refine .inr ⟨.inl k, c, e, ?_⟩
      have q := x.cell y c e
      rw [bindC_get ndP hp hu (by show scope.names.lookup y ≠ _; rw [k]; decide)] at q
      exact q
  · exact e0.hok.fresh (Nat.le_of_lt (x.above y c (PySem.mem_of_lookup h)))
  · unfold start
    show _ = N.length
    rw [List.length_append, List.length_map, List.length_replicate]
    omega
/-- THE RULE: a def (or a method) of the text, by its body. The body's reading t is chosen for each entry; it is run at the parameters' values -/
theorem fn_of {CX : CXT} {P : Program} {w : World} {K : PySem.W.Frag} {mg : Str → Option Value} {base : Heap} {k : Nat} {f : Addr} {name qual : Str} {params : Arguments} {body : List Stmt} {scope : Scope} {dV kV doc pm cdv ct oc : Value} {an od : Option Addr}
    {osl : Array (Option Value)} {N ps : List Str} {sp : Sp} (lk : K.lookup f = some ⟨oc, od, .func (PySem.W.fnOf name qual params body scope dV kV doc pm an cdv ct), osl⟩) (hcd : PySem.W.codeIn K cdv qual = true) (S : FnScope N ps scope)
    (len : ∀ vs H Q E, sp vs H Q E → vs.length = ps.length)
    (hbody : ∀ (A : Around) (outer : List Env) (s : Shared) (H : Hp) (vs : List V) (Q : VK) (E : XK), Room k (A.deeper (envOfC qual scope s.heap.objs.size f cdv)) → sp vs H Q E →
      ∃ t, PSs (cxOf CX P w K mg base N qual scope f cdv A outer s H E) body t ∧ t { nx := fun _ H' => Q .non H', rt := Q } (start N vs) H) :
    FnOk P w K mg base CX (k + 1) f (PySem.W.fnOf name qual params body scope dV kV doc pm an cdv ct) ps sp := by
  refine ⟨len, fun A outer s H args us vs Q E hr e0 hb r hsp => ?_⟩
  have hl := len _ _ _ _ hsp
  have KX : K.In s.heap := e0.mod.kin.keeps fun b o e => (e0.bs b o e).1
  have lim : s.heap.NoLimit := e0.mod.nolimit.keeps fun b o e => (e0.bs b o e).1
  have hkind : ∀ y ∈ ps.zip us, scope.names.lookup y.1 = some .local ∨ (scope.names.lookup y.1 = some .cell ∧ ((cellsFrom (s.heap.objs.size + 1) scope.names []).lookup y.1).isSome = true) := fun ⟨n, v⟩ hy => by
    rcases S.par n (List.of_mem_zip hy).1 with q | q
    · exact .inl q
    · exact .inr ⟨q, PySem.W.cellsFrom_some _ _ _ (.inl q)⟩
  refine codeAny_call_function hr.depth (KX _ _ lk) rfl S.co S.gen rfl (PySem.W.codeRec_of KX hcd) (hb _ _ _ _ ?_)
  refine wpAny_newFunctionEnv_cells S.kind hkind fun env he s1 x => ?_
  subst he
  refine ⟨lim.keeps x.toInCall.keep, codeAny_func ?_⟩
  obtain ⟨t, ht, hq⟩ := hbody A outer s H vs Q E (hr.deeper _) hsp
  have I : Inv (cxOf CX P w K mg base N qual scope f cdv A outer s H E) [] (start N vs) H s1 := inv_start S hr.hd e0 hl r x
  refine wpAny_mono (ht [] s1 (start N vs) H _ I hq) (fun fl s' hs => ?_) fun e s' hs => hs
  have fin : ∀ {σ' : St} {H' : Hp} {v : V} {u : Value}, Inv (cxOf CX P w K mg base N qual scope f cdv A outer s H E) [] σ' H' s' → RelV v u → Q v H' → CE outer P w H s Q u s' :=
    fun {σ' H' v u} J rv q => ⟨v, H', J.os, J.bare, J.base, J.hok, rv, q⟩
  cases fl with
  | ret u =>
    obtain ⟨v, σ', H', J, rv, q⟩ := hs
    exact fin J rv q
  | next =>
    obtain ⟨σ', H', J, q⟩ := hs
    exact fin (v := V.non) (u := Value.none) J rfl q
  | brk =>
    obtain ⟨_, _, _, q⟩ := hs
    exact False.elim q
  | cont =>
    obtain ⟨_, _, _, q⟩ := hs
    exact False.elim q
end L2
namespace L2
open PySem PySem.Spec PyProof.Rows
section
variable {X : Cx} {x : Str} {p pos : Pos} {e : Expr} {es : List Expr} {t : TA} {id T : String} {r : List V → Hp → VK → Prop}
def tCB (r : List V → Hp → VK → Prop) (t : TA) : TE := fun σ H Q => t σ H fun vs H1 => r vs H1 Q
/-- f(e, ..), f a built-in function -/
theorem pe_callB (hc : CallR X (.builtin id) r) (hg : Gl X x) (hm : X.mg x = none) (hv : bootBuiltins x = some (.builtin id)) (ha : PA X (e :: es) t) (hn : x ≠ "__name__" := by decide) (hdb : (x == ("__debug__" : Str)) = false := by decide)
    (he : starEach (e :: es) X.env = (false, eval e X.env) :: starEach es X.env := by rfl) (hpl : (backTo pos (starEach es X.env)).any (·.1) = false := by rfl) : PE X (.Call (.Name x p) (e :: es) [] pos) (tCB r t) := by
  intro pins s σ H Q I h
  refine wpAny_Call_Name_kw (ld_blt I hg hm hv ?_ hn hdb)
  exact PyProof.Rows.callWith_builtin1 (thn (ha pos pins s σ H _ I h) fun us s1 ⟨vs, H1, I1, r1, q1⟩ => hc pins s1 σ H1 vs us Q I1 r1 q1) he hpl
/-- T(e, ..), T a built-in type -/
theorem pe_callTy (hc : CallR X (.type T) r) (hg : Gl X x) (hm : X.mg x = none) (hv : bootBuiltins x = some (.type T)) (ha : PA X (e :: es) t) (hn : x ≠ "__name__" := by decide) (hdb : (x == ("__debug__" : Str)) = false := by decide)
    (he : starEach (e :: es) X.env = (false, eval e X.env) :: starEach es X.env := by rfl) (hpl : (backTo pos (starEach es X.env)).any (·.1) = false := by rfl) : PE X (.Call (.Name x p) (e :: es) [] pos) (tCB r t) := by
  intro pins s σ H Q I h
  refine wpAny_Call_Name_kw (ld_blt I hg hm hv ?_ hn hdb)
  exact PyProof.Rows.callWith_type1 (thn (ha pos pins s σ H _ I h) fun us s1 ⟨vs, H1, I1, r1, q1⟩ => hc pins s1 σ H1 vs us Q I1 r1 q1) he hpl
end
end L2
namespace HT
open PySem PyProof.Rows
section
open PySem.SeqAt
open PySem.AutoSeq1 (wpAny_loadPart')
open PySem.MeetsSeq PySem.MeetsSeq2 PySem.MeetsSeq3
end
section
variable {prog : Program} {w : World} {A : Around} {E : Value → Shared → Prop} {s : Shared}
/-- a slice's bound as a place among n (d where it is left out) -/
def sIx (n d : Nat) : Option Int → Nat
  | none => d
  | some v => if v < 0 then (v + (n : Int)).toNat else min v.toNat n
theorem sIx_none (n d : Nat) : sIx n d none = d := rfl
theorem sIx_nat (n d k : Nat) : sIx n d (some (k : Int)) = min k n := by
  show (if (k : Int) < 0 then ((k : Int) + (n : Int)).toNat else min (k : Int).toNat n) = min k n
  rw [if_neg (by omega), Int.toNat_natCast]
end
end HT
namespace L2
open PySem PySem.Spec PyProof.Rows
abbrev TO := St → Hp → (Option Int → Hp → Prop) → Prop
/-- a slice's part (left out, or an int) -/
def PO (X : Cx) (e : Option Expr) (t : TO) : Prop :=
  ∀ (pins : List (Addr × Obj)) (s : Shared) (σ : St) (H : Hp) (Q : Option Int → Hp → Prop), Inv X pins σ H s → t σ H Q →
    wpAny (model X.prog X.w) X.A (evalPart e X.env) (fun u s' => ∃ o H', Inv X pins σ H' s' ∧ IsPart u o ∧ Q o H') X.xe s
def tNoPart : TO := fun _ H Q => Q none H
def tPart (t : TE) : TO := fun σ H Q => t σ H fun x H1 => ∃ i, x = .int i ∧ Q (some i) H1
section
variable {X : Cx} {e : Expr} {te : TE} {lo hi : Option Expr} {tl th : TO} {pos p2 : Pos}
theorem po_none : PO X none tNoPart := by
  intro pins s σ H Q I h
  rw [evalPart_none]
  exact wpAny_pure ⟨none, H, I, .none, h⟩
theorem po_some (h : PE X e te) : PO X (some e) (tPart te) := by
  intro pins s σ H Q I hw
  rw [evalPart_some]
  refine thn (h pins s σ H _ I hw) fun u s1 ⟨x, H1, I1, r1, q1⟩ => ?_
  obtain ⟨i, rfl, q⟩ := q1
  obtain ⟨t, rfl⟩ := r1
  exact ⟨some i, H1, I1, .int i t, q⟩
/-- what a slice of a value is, by values: the slice object stands at sl -/
def SlR (X : Cx) (r : V → Option Int → Option Int → Hp → VK → Prop) : Prop :=
  ∀ (pins : List (Addr × Obj)) (s : Shared) (σ : St) (H : Hp) (x : V) (v vl vu : Value) (lo hi : Option Int) (sl : Addr) (Q : VK), Inv X pins σ H s → RelV x v → s.heap.IsSliceOf sl vl vu .none → IsPart vl lo → IsPart vu hi → r x lo hi H Q →
    ∃ T id, typeLookup (.type T) "__getitem__" = pure (some (.builtin id)) ∧ s.TypeIs v T ∧ wpAny (model X.prog X.w) X.A (getItem v (.ref sl)) (EP X pins σ Q) X.xe s
def tSl (r : V → Option Int → Option Int → Hp → VK → Prop) (te : TE) (tl th : TO) : TE := fun σ H Q => te σ H fun x H1 => tl σ H1 fun l H2 => th σ H2 fun u H3 => r x l u H3 Q
/-- a[lo:hi], any a -/
theorem pe_slice {r : V → Option Int → Option Int → Hp → VK → Prop} (hr : SlR X r) (he : PE X e te) (hl : PO X lo tl) (hu : PO X hi th) : PE X (.Subscript e (.Slice lo hi none p2) pos) (tSl r te tl th) := by
  intro pins s σ H Q I h
  refine Subscript_ (thn (he pins s σ H _ I h) fun v s1 ⟨x, H1, I1, r1, q1⟩ => ?_)
  refine wpAny_Slice (thn (hl pins s1 σ H1 _ I1 q1) fun vl s2 ⟨l, H2, I2, pl, q2⟩ => thn (hu pins s2 σ H2 _ I2 q2) fun vu s3 ⟨u, H3, I3, pu, q3⟩ => ?_)
  rw [evalPart_none]
  refine wpAny_pure ?_
  have I4 : Inv X pins σ H3 { s3 with heap := s3.heap.push { cls := .type "slice", data := .fields #[vl, vu, .none] } } := I3.kept (t' := s3.toks) fun b ob q => Heap.get?_push_of_some _ q
  obtain ⟨T, id, hT, ht, hg⟩ := hr pins { s3 with heap := s3.heap.push { cls := .type "slice", data := .fields #[vl, vu, .none] } } σ H3 x v vl vu l u s3.heap.objs.size Q I4 r1 (Heap.IsSliceOf.new ..) pl pu q3
  show wpAny (model X.prog X.w) X.A (subscriptTail e (.Slice lo hi none p2) v (.ref s3.heap.objs.size)) (EP X pins σ Q) X.xe { s3 with heap := s3.heap.push { cls := .type "slice", data := .fields #[vl, vu, .none] } }
  exact tail_any (ops := [.ref s3.heap.objs.size, v]) ht hT hg (by with_unfolding_all rfl)
/-- the items of xs[lo:hi] -/
def cutV (xs : List V) (lo hi : Option Int) : List V := (xs.drop (HT.sIx xs.length 0 lo)).take (HT.sIx xs.length xs.length hi - HT.sIx xs.length 0 lo)
theorem cutV_length (xs : List V) (lo hi : Option Int) : (cutV xs lo hi).length ≤ xs.length := by
  unfold cutV
  rw [List.length_take, List.length_drop]
  omega
end
end L2
namespace L2
open PySem PySem.Spec PyProof.Rows
/-- the place that an index of any sign means -/
def ixN (n : Nat) (i : Int) : Option Nat := if 0 ≤ i then (if i < n then some i.toNat else none) else if -(n : Int) ≤ i then some (i + n).toNat else none
def atI {α : Type} (xs : List α) (i : Int) : Option α := (ixN xs.length i).bind fun j => xs[j]?
theorem ixN_seq {n : Nat} {i : Int} {j : Nat} (h : ixN n i = some j) : seqIndex? i n = some j ∧ j < n ∧ -(n : Int) ≤ i ∧ i < n := by
  unfold ixN at h
  by_cases h0 : 0 ≤ i
  · rw [if_pos h0] at h
    by_cases h1 : i < n
    · rw [if_pos h1] at h
      have e : i.toNat = j := Option.some.inj h
      exact ⟨by rw [seqIndex_of h0 h1, e], by omega, by omega, h1⟩
    · rw [if_neg h1] at h; cases h
  · rw [if_neg h0] at h
    by_cases h1 : -(n : Int) ≤ i
    · rw [if_pos h1] at h
      have e : (i + n).toNat = j := Option.some.inj h
      exact ⟨by rw [seqIndex_neg (by omega) h1, e], by omega, h1, by omega⟩
    · rw [if_neg h1] at h; cases h
theorem atI_get {α : Type} {xs : List α} {i : Int} {v : α} (h : atI xs i = some v) : ∃ j, seqIndex? i xs.length = some j ∧ xs[j]? = some v ∧ j < xs.length ∧ -(xs.length : Int) ≤ i ∧ i < xs.length := by
  unfold atI at h
  cases e : ixN xs.length i with
  | none => rw [e] at h; cases h
  | some j =>
    rw [e] at h
    obtain ⟨h1, h2, h3, h4⟩ := ixN_seq e
    exact ⟨j, h1, h, h2, h3, h4⟩
theorem atI_nat {α : Type} {xs : List α} {j : Nat} {v : α} (h : xs[j]? = some v) : atI xs (j : Int) = some v := by
  have hj : j < xs.length := (List.getElem?_eq_some_iff.mp h).1
  have e : ixN xs.length (j : Int) = some j := by
    unfold ixN
    rw [if_pos (by omega), if_pos (by omega)]; simp
  unfold atI; rw [e]; exact h
theorem atI_last {α : Type} (xs : List α) (v : α) : atI (xs ++ [v]) (-1) = some v := by
  have hl : (xs ++ [v]).length = xs.length + 1 := by simp
  have e : ixN (xs ++ [v]).length (-1) = some xs.length := by
    unfold ixN
    rw [hl, if_neg (by decide), if_pos (by omega)]
    congr 1
    omega
  unfold atI
  rw [e]
  show (xs ++ [v])[xs.length]? = some v
  simp
/-- what stands as an index of a plain subscript -/
def PlainIx (b : Expr) : Prop := ∀ o i, subscripted b false o i = operate [o, i] (getItem o i)
/-- a subscript by values -/
def IxR (X : Cx) (r : R2) : Prop :=
  ∀ (value slice : Expr) (pins : List (Addr × Obj)) (s : Shared) (σ : St) (H : Hp) (x y : V) (v u : Value) (Q : VK), Inv X pins σ H s → RelV x v → RelV y u → r x y H Q →
    subscripted slice false v u = operate [v, u] (getItem v u) → wpAny (model X.prog X.w) X.A (subscriptTail value slice v u) (EP X pins σ Q) X.xe s
/-- a call of a builtin's method by values: the receiver, the arguments -/
def MtR (X : Cx) (id : String) (r : V → List V → Hp → VK → Prop) : Prop :=
  ∀ (pins : List (Addr × Obj)) (s : Shared) (σ : St) (H : Hp) (x : V) (xs : List V) (v : Value) (us : List Value) (Q : VK), Inv X pins σ H s → RelV x v → Vals xs us → r x xs H Q →
    wpAny (model X.prog X.w) X.A (call (.builtin id) (v :: us)) (EP X pins σ Q) X.xe s
section
variable {X : Cx} {a b : Expr} {ta tb : TE} {pos : Pos}
/-- a[b] -/
theorem pe_ix {r : R2} (hr : IxR X r) (ha : PE X a ta) (hb : PE X b tb) (hs : PlainIx b) : PE X (.Subscript a b pos) (tOp r ta tb) := by
  intro pins s σ H Q I h
  exact Subscript_ (binT ha hb I h fun v u s2 x y H2 I2 rx ry q => hr a b pins s2 σ H2 x y v u Q I2 rx ry q (hs _ _))
def rIxL (K : PySem.W.Frag) : R2 := fun x y H Q => ∃ p xs i v, x = .ref p ∧ y = .int i ∧ SqL K H p xs ∧ atI xs i = some v ∧ Q v H
theorem ix_list : IxR X (rIxL X.K) := by
  intro value slice pins s σ H x y v u Q I rx ry h hs
  obtain ⟨p, xs, i, z, rfl, rfl, hq, he, q⟩ := h
  cases rx
  obtain ⟨t, rfl⟩ := ry
  obtain ⟨its, r, pl, hz⟩ := I.list hq
  obtain ⟨j, h1, h2, h3, h4, h5⟩ := atI_get he
  obtain ⟨w, ew, rw'⟩ := r.get h2
  have hl := r.length
  have hn := line63
  have fin : EP X pins σ Q w s := ⟨z, H, I, rw', q⟩
  by_cases h0 : 0 ≤ i
  · have hj : i.toNat = j := by
      rw [seqIndex_of h0 h5] at h1
      exact Option.some.inj h1
    exact item_listR pl.isList h0 (by omega) (by rw [hj]; simpa using ew) fin hs
  · have hj : (i + (its.toArray.size : Int)).toNat = j := by
      rw [seqIndex_neg (by omega) h4] at h1
      rw [List.size_toArray, ← hl]
      exact Option.some.inj h1
    exact subscriptTail_builtinR (x := w) pl.isList.typeIs slot_list_getitem.lookup
      (wpAny_getItem_list_neg (Q := fun r s' => r = w ∧ EP X pins σ Q r s') pl.isList (by omega) (by rw [List.size_toArray] <;> omega) (by omega) (by rw [hj]; simpa using ew) ⟨rfl, fin⟩) hs
/-- the list's object behind a store -/
theorem mapSeq_set (its : List Value) (n j : Nat) (u : Value) : Obj.mapSeq (·.setIfInBounds j u) { cls := .type "list", data := .seq its.toArray n } = { cls := .type "list", data := .seq (its.set j u).toArray n } := by
  simp [Obj.mapSeq]
theorem Inv.lst {pins : List (Addr × Obj)} {σ : St} {H : Hp} {s : Shared} {p : Addr} {xs : List V} (I : Inv X pins σ H s) (h : H p = some (.lst xs)) :
    ∃ (its : List Value) (n : Nat), Vals xs its ∧ s.heap.get? p = some { cls := .type "list", data := .seq its.toArray n } ∧ xs.length ≤ sizeLine := by
  obtain ⟨z, its, n, r, e⟩ := I.hok p _ h
  exact ⟨its, n, r, e, z⟩
/-- the list at p is written by an update of its object -/
theorem Inv.lstUpd {pins : List (Addr × Obj)} {σ : St} {H : Hp} {s : Shared} {p : Addr} {xs ys : List V} {its its' : List Value} {n n' : Nat} {f : Obj → Obj} (I : Inv X pins σ H s) (h : H p = some (.lst xs))
    (ho : s.heap.get? p = some { cls := .type "list", data := .seq its.toArray n }) (hf : f { cls := .type "list", data := .seq its.toArray n } = { cls := .type "list", data := .seq its'.toArray n' }) (r : Vals ys its') (hz : ys.length ≤ sizeLine) (t : Nat) :
    Inv X pins σ (upd H p (.lst ys)) { s with heap := s.heap.update p f, toks := t } := by
  have e : (s.heap.update p f).get? p = some { cls := .type "list", data := .seq its'.toArray n' } := by
    rw [Heap.get?_update_self f ho (by rw [hf] <;> rfl), hf]
  refine I.write (x := p) (e := p) (by rw [h]; trivial) (.inl rfl) (fun b u hb q => (Heap.get?_update_other _ _ (Ne.symm hb)).trans q) ⟨_, e⟩ ?_
  exact ⟨hz, its', n', r, e⟩
def rSetL : V → V → V → Hp → (Hp → Prop) → Prop := fun o i v H Q => ∃ p xs k j, o = .ref p ∧ i = .int k ∧ H p = some (.lst xs) ∧ ixN xs.length k = some j ∧ Q (upd H p (.lst (xs.set j v)))
theorem set_list : PSet X rSetL := by
  intro pins s σ H o i v ov iv u Q I ro ri rv h
  obtain ⟨p, xs, k, j, rfl, rfl, hp, hj, q⟩ := h
  cases ro
  obtain ⟨t, rfl⟩ := ri
  obtain ⟨its, n, r, ho, hz⟩ := I.lst hp
  obtain ⟨h1, h2, h3, h4⟩ := ixN_seq hj
  have hl := r.length
  have hn := line63
  have I' : Inv X pins σ (upd H p (.lst (xs.set j v))) { s with heap := s.heap.update p (Obj.mapSeq (·.setIfInBounds j u)) } :=
    I.lstUpd hp ho (mapSeq_set its n j u) (r.set rv j) (by rw [List.length_set]; exact hz) s.toks
  by_cases h0 : 0 ≤ k
  · have hk : k.toNat = j := by
      rw [seqIndex_of h0 h4] at h1
      exact Option.some.inj h1
    exact PySem.W.ki_setAt ho h0 (by omega) (by rw [List.size_toArray, ← hl]; exact h4) (by rw [hk]; exact ⟨_, I', q⟩)
  · have hk : (k + (its.toArray.size : Int)).toNat = j := by
      rw [seqIndex_neg (by omega) h3] at h1
      rw [List.size_toArray, ← hl]
      exact Option.some.inj h1
    exact PySem.W.ki_setBack ho (by omega) (by rw [List.size_toArray, ← hl]; exact h3) (by omega) (by rw [hk]; exact ⟨_, I', q⟩)
theorem slice_bounds (lo hi : Option Int) (n : Nat) : (sliceBounds lo hi none n).1 = ((HT.sIx n 0 lo : Nat) : Int) ∧ (sliceBounds lo hi none n).2.1 = ((HT.sIx n n hi : Nat) : Int) ∧ (sliceBounds lo hi none n).2.2 = 1 := by
  refine ⟨?_, ?_, rfl⟩
  · cases lo with
    | none => simp [sliceBounds, HT.sIx]
    | some i =>
      simp only [sliceBounds, HT.sIx, Option.getD_none, show (1 : Int) > 0 by decide, if_true]
      by_cases h : i < 0
      · simp only [h, if_true] <;> omega
      · simp only [h, if_false] <;> omega
  · cases hi with
    | none => simp [sliceBounds, HT.sIx]
    | some i =>
      simp only [sliceBounds, HT.sIx, Option.getD_none, show (1 : Int) > 0 by decide, if_true]
      by_cases h : i < 0
      · simp only [h, if_true] <;> omega
      · simp only [h, if_false] <;> omega
theorem slicePick_cut (its : List Value) (lo hi : Option Int) : slicePick its.toArray lo hi none = ((its.drop (HT.sIx its.length 0 lo)).take (HT.sIx its.length its.length hi - HT.sIx its.length 0 lo)).toArray := by
  obtain ⟨h1, h2, h3⟩ := slice_bounds lo hi its.toArray.size
  unfold slicePick
  rw [h1, h2, h3]
  simp only [sliceRange_one, pick_run, List.size_toArray] <;> rfl
/-- xs[lo:hi] of a list: a new list -/
def rSlL (K : PySem.W.Frag) : V → Option Int → Option Int → Hp → VK → Prop := fun x lo hi H Q => ∃ a xs, x = .ref a ∧ SqL K H a xs ∧ ∀ p, H p = none → Q (.ref p) (upd H p (.lst (cutV xs lo hi)))
theorem sl_list : SlR X (rSlL X.K) := by
  intro pins s σ H x v vl vu lo hi sl Q I rx hs pl pu h
  obtain ⟨a, xs, rfl, hx, q⟩ := h
  cases rx
  obtain ⟨its, r, ht, hz⟩ := I.list hx
  have hlen := r.length
  refine ⟨"list", _, slot_list_getitem.lookup, ht.isList.typeIs, ?_⟩
  refine wpAny_getItem_list_slice ht.isList hs pl pu .none (by simp) ?_ (by rw [List.size_toArray] <;> omega)
  rw [slicePick_cut, ← hlen]
  refine ⟨.ref s.heap.objs.size, _, I.laid (t' := s.toks) (o := .lst (cutV xs lo hi)) (fun b ob q => Heap.get?_push_of_some _ q) (Nat.le_refl _) ?_, rfl, q _ (I.hok.fresh (Nat.le_refl _))⟩
  exact ⟨Nat.le_trans (cutV_length xs lo hi) hz, _, 0, (r.drop (HT.sIx xs.length 0 lo)).take (HT.sIx xs.length xs.length hi - HT.sIx xs.length 0 lo), Heap.get?_push_size _ rfl⟩
def flatV : V → Bool
  | .non => true
  | .bl _ => true
  | .int _ => true
  | .str _ => true
  | _ => false
/-- == of flat values -/
def eqV : V → V → Bool
  | .non, .non => true
  | .bl a, .bl b => a == b
  | .bl a, .int b => (if a then 1 else 0) == b
  | .int a, .bl b => a == (if b then 1 else 0)
  | .int a, .int b => a == b
  | .str a, .str b => a == b
  | _, _ => false
theorem eqAt_V {A : Around} {s : Shared} {y x : V} {u v : Value} (ry : RelV y u) (rx : RelV x v) (fy : flatV y = true) (fx : flatV x = true) : SeqAt.EqAt A s u v (eqV y x) := by
  cases y with
  | non =>
    cases ry
    cases x with
    | non => cases rx; exact SeqAt.EqAt.same _
    | bl b => cases rx; exact SeqAt.EqAt.none_bool b
    | int b => obtain ⟨t, rfl⟩ := rx; exact SeqAt.EqAt.none_int b t
    | str b => obtain ⟨t, rfl⟩ := rx; exact SeqAt.EqAt.none_str b t
    | _ => exact absurd (show false = true from fx) Bool.false_ne_true
  | bl a =>
    cases ry
    cases x with
    | non => cases rx; exact SeqAt.EqAt.bool_none a
    | bl b => cases rx; exact SeqAt.EqAt.bool_bool a b
    | int b => obtain ⟨t, rfl⟩ := rx; exact SeqAt.EqAt.bool_int a b t
    | str b => obtain ⟨t, rfl⟩ := rx; exact SeqAt.EqAt.bool_str a b t
    | _ => exact absurd (show false = true from fx) Bool.false_ne_true
  | int a =>
    obtain ⟨t', rfl⟩ := ry
    cases x with
    | non => cases rx; exact SeqAt.EqAt.int_none a t'
    | bl b => cases rx; exact SeqAt.EqAt.int_bool a t' b
    | int b => obtain ⟨t, rfl⟩ := rx; exact SeqAt.EqAt.int_int a t' b t
    | str b => obtain ⟨t, rfl⟩ := rx; exact SeqAt.EqAt.int_str a t' b t
    | _ => exact absurd (show false = true from fx) Bool.false_ne_true
  | str a =>
    obtain ⟨t', rfl⟩ := ry
    cases x with
    | non => cases rx; exact SeqAt.EqAt.str_none a t'
    | bl b => cases rx; exact SeqAt.EqAt.str_bool a t' b
    | int b => obtain ⟨t, rfl⟩ := rx; exact SeqAt.EqAt.str_int a t' b t
    | str b => obtain ⟨t, rfl⟩ := rx; exact SeqAt.EqAt.str_str a t' b t
    | _ => exact absurd (show false = true from fx) Bool.false_ne_true
  | _ => exact absurd (show false = true from fy) Bool.false_ne_true
/-- the items' answers, read off the values (a value's own answer does not lean on its token) -/
def eqU (x : V) (u : Value) : Bool := match u with
  | .none => eqV .non x
  | .bool b => eqV (.bl b) x
  | .int i _ => eqV (.int i) x
  | .str z _ => eqV (.str z) x
  | _ => false
theorem eqU_of {x y : V} {u : Value} (r : RelV y u) (f : flatV y = true) : eqU x u = eqV y x := by
  cases y with
  | non => cases r; rfl
  | bl b => cases r; rfl
  | int i => obtain ⟨t, rfl⟩ := r; rfl
  | str z => obtain ⟨t, rfl⟩ := r; rfl
  | _ => exact absurd (show false = true from f) Bool.false_ne_true
theorem any_eqU {x : V} : ∀ {xs : List V} {us : List Value}, Vals xs us → xs.all flatV = true → us.any (eqU x) = xs.any fun y => eqV y x
  | _, _, .nil, _ => rfl
  | y :: xs, u :: us, .cons r t, f => by
    rw [List.all_cons, Bool.and_eq_true] at f
    rw [List.any_cons, List.any_cons, eqU_of r f.1, any_eqU t f.2]
theorem mem_eqAt {A : Around} {s : Shared} {x : V} {v : Value} (rx : RelV x v) (fx : flatV x = true) : ∀ {xs : List V} {us : List Value}, Vals xs us → xs.all flatV = true → ∀ u ∈ us, SeqAt.EqAt A s u v (eqU x u)
  | _, _, .nil, _ => fun u hu => by cases hu
  | y :: xs, u :: us, .cons r t, f => fun u' hu => by
    rw [List.all_cons, Bool.and_eq_true] at f
    rcases List.mem_cons.mp hu with rfl | hu
    · rw [eqU_of r f.1]; exact eqAt_V r rx f.1 fx
    · exact mem_eqAt rx fx t f.2 u' hu
def inV (x : V) (xs : List V) : Bool := xs.any fun y => eqV y x
/-- x in a list or tuple of flat items -/
def rIn (K : PySem.W.Frag) (neg : Bool) : R2 := fun x y H Q => ∃ p xs, y = .ref p ∧ (SqL K H p xs ∨ SqT K H p xs) ∧ flatV x = true ∧ xs.all flatV = true ∧ Q (.bl (if neg then !inV x xs else inV x xs)) H
theorem op_in_seq : OpR X (compareOp .In) (rIn X.K false) := by
  intro pins s σ H x y v u Q I rx ry h
  obtain ⟨p, xs, rfl, hq, fx, fs, q⟩ := h
  cases ry
  rcases hq with hq | hq
  · obtain ⟨its, r, pl, hz⟩ := I.list hq
    refine SeqAt.in_listAt (eqU x) pl.isList (fun w hw => mem_eqAt rx fx r fs w (by simpa using hw)) ⟨.bl _, H, I, rfl, ?_⟩
    rw [show its.toArray.any (eqU x) = its.any (eqU x) by simp, any_eqU r fs]
    exact q
  · obtain ⟨its, r, pl, hz⟩ := I.tuple hq
    refine SeqAt.in_tupleAt (eqU x) pl (fun w hw => mem_eqAt rx fx r fs w (by simpa using hw)) ⟨.bl _, H, I, rfl, ?_⟩
    rw [show its.toArray.any (eqU x) = its.any (eqU x) by simp, any_eqU r fs]
    exact q
theorem op_notIn_seq : OpR X (compareOp .NotIn) (rIn X.K true) := by
  intro pins s σ H x y v u Q I rx ry h
  obtain ⟨p, xs, rfl, hq, fx, fs, q⟩ := h
  cases ry
  rcases hq with hq | hq
  · obtain ⟨its, r, pl, hz⟩ := I.list hq
    refine SeqAt.notIn_listAt (eqU x) pl.isList (fun w hw => mem_eqAt rx fx r fs w (by simpa using hw)) ⟨.bl _, H, I, rfl, ?_⟩
    rw [show its.toArray.any (eqU x) = its.any (eqU x) by simp, any_eqU r fs]
    exact q
  · obtain ⟨its, r, pl, hz⟩ := I.tuple hq
    refine SeqAt.notIn_tupleAt (eqU x) pl (fun w hw => mem_eqAt rx fx r fs w (by simpa using hw)) ⟨.bl _, H, I, rfl, ?_⟩
    rw [show its.toArray.any (eqU x) = its.any (eqU x) by simp, any_eqU r fs]
    exact q
theorem call_len_seq : CallR X (.builtin "len") (fun xs H Q => ∃ p ys, xs = [.ref p] ∧ (SqL X.K H p ys ∨ SqT X.K H p ys) ∧ Q (.int ys.length) H) := by
  intro pins s σ H xs us Q I r h
  obtain ⟨p, ys, rfl, hq, q⟩ := h
  obtain ⟨u, rfl, rx⟩ := vals1 r
  cases rx
  have hn := line63
  rcases hq with hq | hq
  · obtain ⟨its, r', pl, hz⟩ := I.list hq
    have hlen := r'.length
    exact Calls.call_len_list pl.isList (by simp only [List.size_toArray] <;> omega) ⟨.int ys.length, H, I.tok _, ⟨s.toks + 1, by rw [List.size_toArray, hlen]⟩, q⟩
  · obtain ⟨its, r', pl, hz⟩ := I.tuple hq
    have hlen := r'.length
    exact len_tuple pl (by simp only [List.size_toArray] <;> omega) ⟨.int ys.length, H, I.tok _, ⟨s.toks + 1, by rw [List.size_toArray, hlen]⟩, q⟩
theorem call_list_of : CallR X (.type "list") (fun xs H Q => ∃ p ys, xs = [.ref p] ∧ (SqL X.K H p ys ∨ SqT X.K H p ys) ∧ ∀ l, H l = none → Q (.ref l) (upd H l (.lst ys))) := by
  intro pins s σ H xs us Q I r h
  obtain ⟨p, ys, rfl, hq, q⟩ := h
  obtain ⟨u, rfl, rx⟩ := vals1 r
  cases rx
  have fin : ∀ (its : List Value), Vals ys its → ys.length ≤ sizeLine → ∀ (h' : Heap) (c' : Nat), (∀ b o', s.heap.get? b = some o' → h'.get? b = some o') →
      h'.get? s.heap.objs.size = some { cls := .type "list", dict := none, data := .seq its.toArray c', slots := #[] } → EP X pins σ Q (.ref s.heap.objs.size) { s with heap := h' } := fun its r' hz h' c' kp e =>
    ⟨.ref s.heap.objs.size, _, I.laid (t' := s.toks) kp (Nat.le_refl _) (show ObjOk X.prog X.w _ h' _ (.lst ys) from ⟨hz, its, c', r', e⟩), rfl, q _ (I.hok.fresh (Nat.le_refl _))⟩
  rcases hq with hq | hq
  · obtain ⟨its, r', pl, hz⟩ := I.list hq
    have hlen := r'.length
    obtain ⟨o, ho, hc, n, hd⟩ := pl.isList
    exact call_list_seq p (.inl rfl) ho hc hd (fun h' c' kp e => fin its r' hz h' c' kp e) (by simp only [List.size_toArray] <;> omega)
  · obtain ⟨its, r', pl, hz⟩ := I.tuple hq
    have hlen := r'.length
    obtain ⟨o, ho, hc, n, hd⟩ := pl
    exact call_list_seq p (.inr rfl) ho hc hd (fun h' c' kp e => fin its r' hz h' c' kp e) (by simp only [List.size_toArray] <;> omega)
/-- the value is of that builtin type -/
def tyV (K : PySem.W.Frag) (T : String) (x : V) (H : Hp) : Prop := match x with
  | .str _ => T = "str"
  | .int _ => T = "int"
  | .ref p => (T = "list" ∧ ∃ xs, SqL K H p xs) ∨ (T = "tuple" ∧ ∃ o, K.lookup p = some o ∧ o.cls = .type "tuple" ∧ o.dict = none) ∨
      (T = "dict" ∧ ((∃ kvs, H p = some (.dK kvs)) ∨ ∃ kvs, H p = some (.dT kvs))) ∨ (T = "set" ∧ ∃ S n, H p = some (.set S n))
  | _ => False
theorem tyV_is {pins : List (Addr × Obj)} {σ : St} {H : Hp} {s : Shared} {T : String} {x : V} {v : Value} (I : Inv X pins σ H s) (r : RelV x v) (ty : tyV X.K T x H) :
    s.TypeIs v T ∧ ∀ a, v = .ref a → ∃ ob, s.heap.get? a = some ob ∧ ob.dict = none := by
  cases x with
  | str z =>
    obtain ⟨t, rfl⟩ := r
    cases (show T = "str" from ty)
    exact ⟨typeIs_str s z t, fun _ e => nomatch e⟩
  | int i =>
    obtain ⟨t, rfl⟩ := r
    cases (show T = "int" from ty)
    exact ⟨typeIs_int s i t, fun _ e => nomatch e⟩
  | ref p =>
    cases r
    rcases ty with ⟨rfl, xs, hq⟩ | ⟨rfl, o, hk, hc, hd⟩ | ⟨rfl, hk⟩ | ⟨rfl, S, n, hk⟩
    · obtain ⟨its, _, pl, _⟩ := I.list hq
      refine ⟨pl.isList.typeIs, fun a e => ?_⟩
      cases e
      obtain ⟨o, n, e, c, hd, _⟩ := pl
      exact ⟨o, e, hd⟩
    · refine ⟨⟨o, I.kIn p o hk, hc⟩, fun a e => ?_⟩
      cases e
      exact ⟨o, I.kIn _ o hk, hd⟩
    · have z : ∃ o, s.heap.get? p = some o ∧ o.ExactDict := by
        rcases hk with ⟨kvs, hk⟩ | ⟨kvs, hk⟩
        · obtain ⟨_, _, _, _, o, _, _, e, ex, _⟩ := I.hok p _ hk
          exact ⟨o, e, ex⟩
        · obtain ⟨_, _, _, _, o, _, _, e, ex, _⟩ := I.hok p _ hk
          exact ⟨o, e, ex⟩
      obtain ⟨o, e, ex⟩ := z
      refine ⟨⟨o, e, ex.1⟩, fun a e2 => ?_⟩
      cases e2
      exact ⟨o, e, ex.2.1⟩
    · obtain ⟨o, _, _, _, e, ex, _⟩ := I.hok p _ hk
      refine ⟨⟨o, e, ex.1⟩, fun a e2 => ?_⟩
      cases e2
      exact ⟨o, e, ex.2.1⟩
  | _ => exact False.elim ty
def tBM0 (K : PySem.W.Frag) (T : String) (r : V → List V → Hp → VK → Prop) (to : TE) : TE := fun σ H Q => to σ H fun x H1 => tyV K T x H1 ∧ r x [] H1 Q
def tBM (K : PySem.W.Frag) (T : String) (r : V → List V → Hp → VK → Prop) (to : TE) (t : TA) : TE := fun σ H Q => to σ H fun x H1 => tyV K T x H1 ∧ t σ H1 fun xs H2 => r x xs H2 Q
variable {o e : Expr} {es : List Expr} {to : TE} {t : TA} {name : Str} {apos cpos : Pos} {T id : String} {r : V → List V → Hp → VK → Prop}
theorem pe_bm0 (pa : PlainAttrs T) (slot : Slot T name id) (hty : typeOf (.builtin id) = pure (.type "method_descriptor")) (hm : MtR X id r) (ho : PE X o to)
    (hbase : attributeBase o name X.env (eval o X.env) = eval o X.env := by rfl) (hline : (apos.endLine == cpos.line) = true := by rfl) : PE X (.Call (.Attribute o name apos) [] [] cpos) (tBM0 X.K T r to) := by
  intro pins s σ H Q I h
  refine wpAny_Call_method0_late hbase hline (thn (ho pins s σ H _ I h) fun v s1 ⟨x, H1, I1, r1, ty, q1⟩ => ?_)
  obtain ⟨h1, h2⟩ := tyV_is I1 r1 ty
  exact ⟨T, id, pa, slot, hty, h1, h2, Calls.callWith_builtin rfl (PySem.evalArgs_none (hm pins s1 σ H1 x [] v [] Q I1 r1 .nil q1))⟩
theorem pe_bm (pa : PlainAttrs T) (slot : Slot T name id) (hty : typeOf (.builtin id) = pure (.type "method_descriptor")) (hm : MtR X id r) (ho : PE X o to) (ha : PA X (e :: es) t)
    (hbase : attributeBase o name X.env (eval o X.env) = eval o X.env := by rfl)
    (hfew : ((backTo cpos (starEach (e :: es) X.env)).all (fun x => !x.1) && (backToKw cpos (keywordEach [] X.env)).all (fun x => x.1.isSome)
      && decide ((e :: es).length + ([] : List Keyword).length + (if ([] : List Keyword).isEmpty then 0 else 1) < 30)) = true := by rfl)
    (hline : (apos.endLine == cpos.line) = true := by rfl) (hs : starEach (e :: es) X.env = (false, eval e X.env) :: starEach es X.env := by rfl) (hplain : (backTo cpos (starEach es X.env)).any (·.1) = false := by rfl) :
    PE X (.Call (.Attribute o name apos) (e :: es) [] cpos) (tBM X.K T r to t) := by
  intro pins s σ H Q I h
  refine wpAny_Call_method_late hbase hfew hline rfl (thn (ho pins s σ H _ I h) fun v s1 ⟨x, H1, I1, r1, ty, q1⟩ => ?_)
  obtain ⟨h1, h2⟩ := tyV_is I1 r1 ty
  refine ⟨T, id, pa, slot, hty, h1, h2, ?_⟩
  have hA := ha cpos pins s1 σ H1 _ I1 q1
  rw [hs] at hA ⊢
  refine Calls.callWith_builtin (by show (false || (backTo cpos (starEach es X.env)).any (·.1)) = false; rw [hplain] <;> rfl) (Calls.evalArgs_plain ?_)
  exact thn hA fun us s2 ⟨vs, H2, I2, r2, q2⟩ => hm pins s2 σ H2 x vs v us Q I2 r1 r2 q2
end
end L2
namespace L2
open PySem PySem.Spec PyProof.Rows
def MtM (X : Cx) (id : String) (r : V → List V → Hp → VK → Prop) : Prop :=
  ∀ (pins : List (Addr × Obj)) (s : Shared) (σ : St) (H : Hp) (x : V) (xs : List V) (v : Value) (us : List Value) (Q : VK), Inv X pins σ H s → RelV x v → Vals xs us → r x xs H Q →
    wpAny (model X.prog X.w) X.A (call (.builtin id) (v :: us)) (EP X pins σ Q) X.xe s
theorem Vals.one : ∀ {x : V} {us : List Value}, Vals [x] us → ∃ u, us = [u] ∧ RelV x u
  | _, _, .cons r .nil => ⟨_, rfl, r⟩
theorem Vals.zero : ∀ {us : List Value}, Vals [] us → us = []
  | _, .nil => rfl
theorem Vals.dropLast {xs : List V} {us : List Value} (h : Vals xs us) : Vals xs.dropLast us.dropLast := by
  induction h with
  | nil => exact .nil
  | cons r t ih =>
    cases t with
    | nil => exact .nil
    | cons q t' => exact .cons r ih
theorem erase_last {α : Type} (l : List α) : l.eraseIdx (l.length - 1) = l.dropLast := by
  induction l with
  | nil => rfl
  | cons a r ih =>
    cases r with
    | nil => rfl
    | cons b r =>
      have e : (a :: b :: r).length - 1 = ((b :: r).length - 1) + 1 := by
        have h1 : (a :: b :: r).length = r.length + 2 := rfl
        have h2 : (b :: r).length = r.length + 1 := rfl
        omega
      rw [e, List.eraseIdx_cons_succ, ih]
      all_goals rfl
section
variable {X : Cx} {pins : List (Addr × Obj)} {σ : St} {H : Hp} {s : Shared} {l b : Addr} {xs ys zs : List V}
theorem Inv.lset {its its' : List Value} {n : Nat} {f : Array Value → Array Value} {t' : Nat} (I : Inv X pins σ H s) (hH : H l = some (.lst xs))
    (e : s.heap.get? l = some { cls := .type "list", data := .seq its.toArray n }) (hf : f its.toArray = its'.toArray) (hv : Vals ys its') (hz : ys.length ≤ sizeLine) :
    Inv X pins σ (upd H l (.lst ys)) { s with heap := s.heap.update l (Obj.mapSeq f), toks := t' } := by
  have q := PySem.IsL.update e f
  rw [hf] at q
  refine I.write (x := l) (e := l) (by rw [hH]; exact trivial) (.inl rfl) (fun b' u hb hu => (Heap.get?_update_other s.heap (Obj.mapSeq f) (Ne.symm hb)).trans hu) ⟨_, q⟩ ?_
  exact ⟨hz, its', _, hv, q⟩
theorem Inv.lnew {its : List Value} {t' : Nat} (I : Inv X pins σ H s) (hv : Vals ys its) (hz : ys.length ≤ sizeLine) :
    Inv X pins σ (upd H s.heap.objs.size (.lst ys)) { s with heap := s.heap.push { cls := .type "list", data := .seq its.toArray }, toks := t' } :=
  I.laid (fun _ _ q => Heap.get?_push_of_some _ q) (Nat.le_refl _) ⟨hz, its, 0, hv, Heap.get?_push_size _ rfl⟩
theorem Inv.fresh (I : Inv X pins σ H s) : H s.heap.objs.size = none := I.hok.fresh (Nat.le_refl _)
theorem Inv.lstM (I : Inv X pins σ H s) (hH : H l = some (.lst xs)) : xs.length ≤ sizeLine ∧ ∃ (its : List Value) (n : Nat), Vals xs its ∧ xs.length = its.length ∧ s.heap.get? l = some { cls := .type "list", data := .seq its.toArray n } := by
  obtain ⟨z, its, n, r, e⟩ := I.hok l _ hH
  exact ⟨z, its, n, r, r.length, e⟩
theorem notLongL {n : Nat} (h : n ≤ sizeLine) : Builtin.List.listTooLong n = false := by
  unfold Builtin.List.listTooLong
  exact decide_eq_false (by omega)
end
section
variable {X : Cx}
def rAppend : V → List V → Hp → VK → Prop := fun x vs H Q => ∃ l xs y, x = .ref l ∧ vs = [y] ∧ H l = some (.lst xs) ∧ xs.length < sizeLine ∧ Q .non (upd H l (.lst (xs ++ [y])))
theorem mt_append : MtM X "list.append" rAppend := by
  intro pins s σ H x vs v us Q I rx rv h
  obtain ⟨l, xs, y, rfl, rfl, hH, hz, q⟩ := h
  cases rx
  obtain ⟨u, rfl, ru⟩ := rv.one
  obtain ⟨z, its, n, r, hl, e⟩ := I.lstM hH
  refine call_meets F.slot_list_append ⟨_, e, rfl⟩ F.entry_list_append (F.args_list_append_2 _ _) (PySem.list_append l its.toArray n u (by rw [List.size_toArray]; omega)) ⟨e, ?_⟩
  refine ⟨.non, _, I.lset (its' := its ++ [u]) hH e (by simp) (r.append (.cons ru .nil)) ?_, rfl, q⟩
  rw [List.length_append, List.length_singleton]
  omega
def rExtend : V → List V → Hp → VK → Prop := fun x vs H Q => ∃ l b xs zs, x = .ref l ∧ vs = [.ref b] ∧ H l = some (.lst xs) ∧ H b = some (.lst zs) ∧ xs.length + zs.length ≤ sizeLine ∧ Q .non (upd H l (.lst (xs ++ zs)))
theorem mt_extend : MtM X "list.extend" rExtend := by
  intro pins s σ H x vs v us Q I rx rv h
  obtain ⟨l, b, xs, zs, rfl, rfl, hH, hB, hz, q⟩ := h
  cases rx
  obtain ⟨u, rfl, ru⟩ := rv.one
  cases ru
  obtain ⟨z, its, n, r, hl, e⟩ := I.lstM hH
  obtain ⟨z2, its2, n2, r2, hl2, e2⟩ := I.lstM hB
  have hsz : its.toArray.size + its2.toArray.size ≤ sizeLine := by rw [List.size_toArray, List.size_toArray]; omega
  have hlong : ¬ (!its.toArray.isEmpty && Builtin.List.listTooLong (its.toArray.size + its2.toArray.size)) = true := by
    rw [notLongL hsz, Bool.and_false]
    exact Bool.false_ne_true
  refine call_meets F.slot_list_extend ⟨_, e, rfl⟩ F.entry_list_extend (F.args_list_extend_2 _ _)
    (AutoSeq1.list_extend_list_list_0 l its.toArray n b its2.toArray n2 hlong (by rw [List.size_toArray]; omega) (by omega)) ⟨e, e2, ?_⟩
  refine ⟨.non, _, I.lset (its' := its ++ its2) hH e (by simp) (r.append r2) ?_, rfl, q⟩
  rw [List.length_append]
  omega
def rPop : V → List V → Hp → VK → Prop := fun x vs H Q => ∃ l xs y, x = .ref l ∧ vs = [] ∧ H l = some (.lst xs) ∧ xs[xs.length - 1]? = some y ∧ Q y (upd H l (.lst xs.dropLast))
theorem mt_pop : MtM X "list.pop" rPop := by
  intro pins s σ H x vs v us Q I rx rv h
  obtain ⟨l, xs, y, rfl, rfl, hH, hy, q⟩ := h
  cases rx
  have hus := rv.zero
  subst hus
  obtain ⟨z, its, n, r, hl, e⟩ := I.lstM hH
  obtain ⟨u, hu, ru⟩ := r.get hy
  have hy' : its.toArray[its.toArray.size - 1]? = some u := by
    show its.toArray[its.length - 1]? = some u
    rw [← Array.getElem?_toList, ← hl]
    exact hu
  refine call_meets F.slot_list_pop ⟨_, e, rfl⟩ F.entry_list_pop (F.args_list_pop_1 _) (MeetsSeq.list_pop_last l its.toArray n u hy' (by rw [List.size_toArray]; omega)) ⟨e, ?_⟩
  refine ⟨y, _, I.lset (its' := its.dropLast) hH e ?_ r.dropLast ?_, ru, q⟩
  · show its.toArray.eraseIdxIfInBounds (its.toArray.size - 1) = its.dropLast.toArray
    rw [List.size_toArray, List.eraseIdxIfInBounds_toArray, erase_last]
  · rw [List.length_dropLast]
    omega
def rCat : R2 := fun x y H Q => ∃ l b xs zs, x = .ref l ∧ y = .ref b ∧ H l = some (.lst xs) ∧ H b = some (.lst zs) ∧ xs.length + zs.length ≤ sizeLine ∧ ∀ p, H p = none → Q (.ref p) (upd H p (.lst (xs ++ zs)))
theorem op_cat : OpR X (binaryOp .Add) rCat := by
  intro pins s σ H x y v u Q I rx ry h
  obtain ⟨l, b, xs, zs, rfl, rfl, hH, hB, hz, q⟩ := h
  cases rx
  cases ry
  obtain ⟨z, its, n, r, hl, e⟩ := I.lstM hH
  obtain ⟨z2, its2, n2, r2, hl2, e2⟩ := I.lstM hB
  refine PySem.P.add_list e e2 ?_ (by rw [List.size_toArray, List.size_toArray]; omega)
  have ea : its.toArray ++ its2.toArray = (its ++ its2).toArray := by simp
  rw [ea]
  exact ⟨.ref _, _, I.lnew (t' := s.toks) (r.append r2) (by rw [List.length_append]; omega), rfl, q _ I.fresh⟩
end
section
variable {prog : Program} {w : World} {A : Around} {E : Value → Shared → Prop} {s : Shared}
set_option maxRecDepth 100000 in
end
section
variable {X : Cx}
end
end L2
namespace L2
open PySem PySem.Spec PyProof.Rows
theorem Vals.ints : ∀ {ns : List Int} {us : List Value}, Vals (ns.map V.int) us → IntsAre us ns
  | [], us, h => by
    rw [List.map_nil] at h
    cases h
    exact IntsAre.nil
  | n :: ns, us, h => by
    rw [List.map_cons] at h
    cases h with
    | cons r t =>
      obtain ⟨k, rfl⟩ := r
      exact IntsAre.cons n k (Vals.ints t)
theorem Vals.ref1 {a : Addr} {us : List Value} (r : Vals [V.ref a] us) : us = [Value.ref a] := by
  cases r with
  | cons r t =>
    cases t
    cases r
    rfl
section
variable {prog : Program} {w : World} {A : Around} {E : Value → Shared → Prop} {s : Shared} {l : Addr} {its : List Value} {ns : List Int} {Q : Value → Shared → Prop}
theorem sum_raw (hh : A.handled = none) (hl : s.heap.IsList l its.toArray) (hi : IntsAre its ns)
    (h : ∀ h' tk t', (∀ b o, s.heap.get? b = some o → h'.get? b = some o) → Q (.int ns.sum t') { s with heap := h', toks := tk }) : wpAny (model prog w) A (call (.builtin "sum") [.ref l]) Q E s := by
  obtain ⟨xs, e⟩ := hi.allInts.items
  have hn : numsOf (intItems xs).toList = ns := by rw [← e]; exact hi.numsOf
  rw [nums_intItems] at hn
  rw [e] at hl
  refine PySem.sum_intListG hh hl fun h' tk t' hk => ?_
  have := h h' tk t' hk
  rw [preSum_eq, List.take_of_length_le (by simp), hn]; exact this
end
section
variable {X : Cx}
/-- sum(xs) of a list of ints -/
def rSum (K : PySem.W.Frag) : List V → Hp → VK → Prop := fun vs H Q => ∃ (a : Addr) (ns : List Int), vs = [V.ref a] ∧ SqL K H a (ns.map V.int) ∧ Q (.int ns.sum) H
theorem cr_sum (hc : X.calm = true) : CallR X (.builtin "sum") (rSum X.K) := by
  intro pins s σ H vs us Q I r h
  obtain ⟨a, ns, rfl, hs, q⟩ := h
  obtain ⟨its, rv, hl, _⟩ := I.list hs
  rw [Vals.ref1 r]
  exact sum_raw (I.ok.hd hc) hl.isList rv.ints fun h' tk t' hk => ⟨.int _, H, I.kept hk, ⟨_, rfl⟩, q⟩
end
section
variable {X : Cx}
end
section
variable {X : Cx}
end
section
variable {X : Cx}
end
mutual
inductive Dp (K : PySem.W.Frag) (H : Hp) : V → PyData → Prop
  | non : Dp K H .non .none
  | bl (b : Bool) : Dp K H (.bl b) (.bool b)
  | int (i : Int) : Dp K H (.int i) (.int i)
  | str (x : Str) : Dp K H (.str x) (.str x)
  | lst {a : Addr} {xs : List V} {ds : List PyData} : SqL K H a xs → DpAll K H xs ds → Dp K H (.ref a) (.list ds)
  | tup {a : Addr} {xs : List V} {ds : List PyData} : SqT K H a xs → DpAll K H xs ds → Dp K H (.ref a) (.tuple ds)
inductive DpAll (K : PySem.W.Frag) (H : Hp) : List V → List PyData → Prop
  | nil : DpAll K H [] []
  | cons {v : V} {vs : List V} {d : PyData} {ds : List PyData} : Dp K H v d → DpAll K H vs ds → DpAll K H (v :: vs) (d :: ds)
end
section
variable {X : Cx} {pins : List (Addr × Obj)} {σ : St} {H : Hp} {s : Shared}
mutual
theorem Dp.reads (I : Inv X pins σ H s) : ∀ (d : PyData) (v : V) (u : Value), Dp X.K H v d → RelV v u → ∃ as, Reads s.heap u d as
  | .none, _, _, h, r => by
    cases h
    cases r
    exact ⟨_, Reads.none⟩
  | .bool b, _, _, h, r => by
    cases h
    cases r
    exact ⟨_, Reads.bool b⟩
  | .int i, _, _, h, r => by
    cases h
    obtain ⟨t, rfl⟩ := r
    exact ⟨_, Reads.int i t⟩
  | .str x, _, _, h, r => by
    cases h
    obtain ⟨t, rfl⟩ := r
    exact ⟨_, Reads.str x t⟩
  | .list ds, _, _, h, r => by
    cases h with
    | lst hs ha =>
      cases r
      obtain ⟨its, rv, ⟨o, n, ho, hc, _, hd⟩, _⟩ := I.list hs
      obtain ⟨as, hr⟩ := Dp.readsAll I ds _ its ha rv
      exact ⟨_, Reads.list ho hc hd hr⟩
  | .tuple ds, _, _, h, r => by
    cases h with
    | tup hs ha =>
      cases r
      obtain ⟨its, rv, ⟨o, ho, hc, n, hd⟩, _⟩ := I.tuple hs
      obtain ⟨as, hr⟩ := Dp.readsAll I ds _ its ha rv
      exact ⟨_, Reads.tuple ho hc hd hr⟩
  | .dict _, _, _, h, _ => by cases h
theorem Dp.readsAll (I : Inv X pins σ H s) : ∀ (ds : List PyData) (vs : List V) (us : List Value), DpAll X.K H vs ds → Vals vs us → ∃ as, ReadsAll s.heap us ds as
  | [], _, _, h, r => by
    cases h
    cases r
    exact ⟨_, ReadsAll.nil⟩
  | d :: ds, _, _, h, r => by
    cases h with
    | cons h1 h2 =>
      cases r with
      | cons r1 r2 =>
        obtain ⟨as, q1⟩ := Dp.reads I d _ _ h1 r1
        obtain ⟨bs, q2⟩ := Dp.readsAll I ds _ _ h2 r2
        exact ⟨_, ReadsAll.cons q1 q2⟩
end
end
section
variable {X : Cx}
def rEqD (K : PySem.W.Frag) : R2 := fun x y H Q => ∃ d e, Dp K H x d ∧ Dp K H y e ∧ SeqAt.shaped d = true ∧ SeqAt.shaped e = true ∧ Q (.bl (PyData.eqv d e)) H
theorem op_eqD (hu : X.A.units + 64 < cLine) : OpR X (compareOp .Eq) (rEqD X.K) := by
  intro pins s σ H x y v u Q I rx ry h
  obtain ⟨d, e, hd, he, sd, se, q⟩ := h
  obtain ⟨as, r1⟩ := Dp.reads I d x v hd rx
  obtain ⟨bs, r2⟩ := Dp.reads I e y u he ry
  exact SeqAt.compareEq_shaped r1 r2 sd se hu ⟨.bl _, H, I, rfl, q⟩
end
end L2
namespace L2
open PySem PySem.Spec PyProof.Rows
abbrev CellAt (h : Heap) (c : Addr) (v : Option Value) : Prop := h.IsCell c v
def relS (scope sc : Scope) : Scope :=
  { scope with names := scope.names.map fun (n, k) => if (k == .free && sc.kind == .function && sc.names.lookup n == some .cell) then (n, .cell) else (n, k) }
def cloFrom (cells : List (Str × Addr)) : List (Str × NameKind) → List (Str × Addr) → List (Str × Addr)
  | [], acc => acc
  | (n, k) :: r, acc => if k == .free then cloFrom cells r ((n, (cells.lookup n).getD 0) :: acc) else cloFrom cells r acc
theorem closure_loop (env : Env) (f : Str × NameKind → List (Str × Addr) → Sem (ForInStep (List (Str × Addr))))
    (hf : ∀ n k c, f (n, k) c = if k == .free then (do let a ← cellOf env n; pure (.yield ((n, a) :: c))) else pure (.yield c)) :
    ∀ (names : List (Str × NameKind)) (acc : List (Str × Addr)), (∀ y ∈ names, y.2 = .free → ∃ c, env.cells.lookup y.1 = some c) → forIn names acc f = pure (cloFrom env.cells names acc)
  | [], acc, _ => by rw [List.forIn_nil]; rfl
  | (n, k) :: r, acc, h => by
    rw [List.forIn_cons, hf]
    have ih := fun acc => closure_loop env f hf r acc fun y hy => h y (List.mem_cons_of_mem _ hy)
    unfold cloFrom
    by_cases hk : (k == NameKind.free) = true
    · rw [if_pos hk, if_pos hk]
      obtain ⟨c, hc⟩ := h (n, k) List.mem_cons_self (by simpa using hk)
      have e : cellOf env n = pure c := by unfold cellOf; rw [hc]
      rw [e]
      have e2 : (env.cells.lookup n).getD 0 = c := by rw [hc]; rfl
      rw [e2]
      exact ih _
    · rw [if_neg hk, if_neg hk]
      exact ih _
theorem closure_ok {scope : Scope} {env : Env} (h : ∀ y ∈ scope.names, y.2 = .free → ∃ c, env.cells.lookup y.1 = some c) : closureFor scope env = pure (cloFrom env.cells scope.names []) := by
  simp only [closureFor]
  rw [closure_loop env _ (fun n k c => rfl) scope.names [] h]
  rfl
theorem mem_lookup {α : Type} : ∀ {l : List (Str × α)} {n : Str} {c : α}, (n, c) ∈ l → ∃ c', l.lookup n = some c'
  | (k, v) :: r, n, c, h => by
    rw [List.lookup_cons]
    cases hb : n == k with
    | true => exact ⟨_, rfl⟩
    | false =>
      rcases List.mem_cons.mp h with e | h
      · cases e; simp at hb
      · exact mem_lookup h
theorem cloFrom_mem {cells : List (Str × Addr)} : ∀ {names : List (Str × NameKind)} {acc : List (Str × Addr)} {n : Str} {c : Addr}, (n, c) ∈ cloFrom cells names acc → (n, c) ∈ acc ∨ ((n, .free) ∈ names ∧ c = (cells.lookup n).getD 0)
  | [], _, _, _, h => .inl h
  | (m, k) :: r, acc, n, c, h => by
    unfold cloFrom at h
    split at h
    · rename_i hk
      have hk : k = .free := by simpa using hk
      rcases cloFrom_mem h with h | ⟨h1, h2⟩
      · rcases List.mem_cons.mp h with e | h
        · cases e; exact .inr ⟨hk ▸ List.mem_cons_self, rfl⟩
        · exact .inl h
      · exact .inr ⟨List.mem_cons_of_mem _ h1, h2⟩
    · rcases cloFrom_mem h with h | ⟨h1, h2⟩
      · exact .inl h
      · exact .inr ⟨List.mem_cons_of_mem _ h1, h2⟩
theorem cloFrom_acc {cells : List (Str × Addr)} : ∀ {names : List (Str × NameKind)} {acc : List (Str × Addr)} {p : Str × Addr}, p ∈ acc → p ∈ cloFrom cells names acc
  | [], _, _, h => h
  | (m, k) :: r, acc, p, h => by
    unfold cloFrom
    split
    · exact cloFrom_acc (List.mem_cons_of_mem _ h)
    · exact cloFrom_acc h
theorem cloFrom_has {cells : List (Str × Addr)} : ∀ {names : List (Str × NameKind)} {acc : List (Str × Addr)} {n : Str}, (n, .free) ∈ names → (n, (cells.lookup n).getD 0) ∈ cloFrom cells names acc
  | (m, k) :: r, acc, n, h => by
    unfold cloFrom
    rcases List.mem_cons.mp h with e | h
    · cases e
      exact cloFrom_acc List.mem_cons_self
    · split
      · exact cloFrom_has h
      · exact cloFrom_has h
theorem cells_mem : ∀ {names : List (Str × NameKind)} {h : Heap} {acc : List (Str × Addr)} {x : Str} {c : Addr}, (x, c) ∈ cellsFrom h.objs.size names acc →
    (x, c) ∈ acc ∨ ((x, .cell) ∈ names ∧ h.objs.size ≤ c ∧ CellAt (pushCells h names) c none)
  | [], _, _, _, _, h => .inl h
  | (n, k) :: r, h, acc, x, c, hm => by
    unfold cellsFrom at hm
    unfold pushCells
    split at hm
    · rename_i hk
      rw [if_pos hk]
      have hk : k = .cell := by simpa using hk
      rw [← Heap.size_push h { cls := .type "cell", data := .cell none }] at hm
      rcases cells_mem hm with hm | ⟨h1, h2, h3⟩
      · rcases List.mem_cons.mp hm with e | hm
        · cases e
          exact .inr ⟨hk ▸ List.mem_cons_self, Nat.le_refl _, _, pushCells_keeps r _ _ _ (Heap.get?_push_size _ rfl), rfl⟩
        · exact .inl hm
      · rw [Heap.size_push] at h2
        exact .inr ⟨List.mem_cons_of_mem _ h1, Nat.le_of_succ_le h2, h3⟩
    · rename_i hk
      rw [if_neg hk]
      rcases cells_mem hm with hm | ⟨h1, h2, h3⟩
      · exact .inl hm
      · exact .inr ⟨List.mem_cons_of_mem _ h1, h2, h3⟩
theorem cells_acc : ∀ {names : List (Str × NameKind)} {n : Nat} {acc : List (Str × Addr)} {p : Str × Addr}, p ∈ acc → p ∈ cellsFrom n names acc
  | [], _, _, _, h => h
  | (m, k) :: r, n, acc, p, h => by
    unfold cellsFrom
    split
    · exact cells_acc (List.mem_cons_of_mem _ h)
    · exact cells_acc h
theorem cells_has : ∀ {names : List (Str × NameKind)} {n : Nat} {acc : List (Str × Addr)} {x : Str}, (x, .cell) ∈ names → ∃ c, (x, c) ∈ cellsFrom n names acc
  | (m, k) :: r, n, acc, x, h => by
    unfold cellsFrom
    rcases List.mem_cons.mp h with e | h
    · cases e
      exact ⟨n, cells_acc List.mem_cons_self⟩
    · split
      · exact cells_has h
      · exact cells_has h
theorem cells_inj : ∀ {names : List (Str × NameKind)} {h : Heap} {acc : List (Str × Addr)} {x y : Str} {c : Addr}, (∀ p ∈ acc, p.2 < h.objs.size) → (∀ x y c, (x, c) ∈ acc → (y, c) ∈ acc → x = y) →
    (x, c) ∈ cellsFrom h.objs.size names acc → (y, c) ∈ cellsFrom h.objs.size names acc → x = y
  | [], _, _, _, _, _, _, hi, h1, h2 => hi _ _ _ h1 h2
  | (n, k) :: r, h, acc, x, y, c, hl, hi, h1, h2 => by
    unfold cellsFrom at h1 h2
    split at h1
    · rename_i hk
      rw [if_pos hk] at h2
      rw [← Heap.size_push h { cls := .type "cell", data := .cell none }] at h1 h2
      refine cells_inj (h := h.push _) (fun p hp => ?_) (fun x y c a b => ?_) h1 h2
      · rw [Heap.size_push]
        rcases List.mem_cons.mp hp with rfl | hp
        · exact Nat.lt_succ_self _
        · exact Nat.lt_succ_of_lt (hl p hp)
      · rcases List.mem_cons.mp a with e | a <;> rcases List.mem_cons.mp b with e' | b
        · cases e; cases e'; rfl
        · cases e; exact absurd (hl _ b) (Nat.lt_irrefl _)
        · cases e'; exact absurd (hl _ a) (Nat.lt_irrefl _)
        · exact hi _ _ _ a b
    · rename_i hk
      rw [if_neg hk] at h2
      exact cells_inj hl hi h1 h2
theorem newEnv_comp {M : Model} {A : Around} {E : Value → Shared → Prop} {s : Shared} {scope : Scope} {globals : Addr} {closure : List (Str × Addr)} {qual : Str} {func : Option Addr} {code : Value} {around : Env} {builtins : Addr} {Q : Env → Shared → Prop}
    (h : Q (newEnv scope s.heap.objs.size globals (cellsFrom (s.heap.objs.size + 1) scope.names closure) qual func code (some around) builtins)
      { s with heap := pushCells (s.heap.push { cls := .type "dict", data := .dict #[] }) scope.names }) :
    wpAny M A (newFunctionEnv scope globals closure [] qual func code (some around) builtins) Q E s := by
  simp only [newFunctionEnv, Option.isSome_some, if_true]
  refine wpAny_bind (wpAny_alloc ?_)
  refine wpAny_bind (wpAny_layCells _ (fun n k c => rfl) scope.names closure _ _ ?_)
  rw [show ({ s with heap := s.heap.push { cls := .type "dict", data := .dict #[] } } : Shared).heap.objs.size = s.heap.objs.size + 1 from Heap.size_push ..]
  rw [List.forIn_nil]
  exact wpAny_bind (wpAny_pure (wpAny_pure h))
/-- every name of the written scope, in the scope that runs -/
theorem lookup_relS {sc : Scope} : ∀ {names : List (Str × NameKind)} {x : Str} {k : NameKind},
    (names.map fun (n, k) => if (k == NameKind.free && sc.kind == .function && sc.names.lookup n == some .cell) then (n, NameKind.cell) else (n, k)).lookup x = some k →
    ∃ k', names.lookup x = some k' ∧ (k = k' ∨ (k' = .free ∧ k = .cell))
  | [], _, _, h => by simp at h
  | (n, k₀) :: r, x, k, h => by
    have ih := @lookup_relS sc r x k
    have h' : List.lookup x ((if (k₀ == NameKind.free && sc.kind == .function && sc.names.lookup n == some .cell) = true then (n, NameKind.cell) else (n, k₀)) :: (r.map _)) = some k := h
    cases hx : x == n with
    | true =>
      simp only [List.lookup_cons, hx]
      by_cases hc : (k₀ == NameKind.free && sc.kind == .function && sc.names.lookup n == some .cell) = true
      · rw [if_pos hc] at h'
        simp only [List.lookup_cons, hx] at h'
        cases h'
        simp only [Bool.and_eq_true, beq_iff_eq] at hc
        exact ⟨k₀, rfl, .inr ⟨hc.1.1, rfl⟩⟩
      · rw [if_neg hc] at h'
        simp only [List.lookup_cons, hx] at h'
        cases h'
        exact ⟨_, rfl, .inl rfl⟩
    | false =>
      simp only [List.lookup_cons, hx]
      by_cases hc : (k₀ == NameKind.free && sc.kind == .function && sc.names.lookup n == some .cell) = true
      · rw [if_pos hc] at h'
        simp only [List.lookup_cons, hx] at h'
        exact ih h'
      · rw [if_neg hc] at h'
        simp only [List.lookup_cons, hx] at h'
        exact ih h'
/-- the names of a comprehension's block: its own (with their places in N), or captured -/
structure BlkOk (N : List Str) (sc scope : Scope) (own : List (Str × Nat)) : Prop where
  kind : scope.kind = .function
  uniq : ∀ y ∈ scope.names, scope.names.lookup y.1 = some y.2
  ix : ∀ p ∈ own, N[p.2]? = some p.1
  free : ∀ y ∈ scope.names, y.2 = .free → sc.names.lookup y.1 = some .cell ∨ sc.names.lookup y.1 = some .free
  own : ∀ y ∈ scope.names, y.2 = .local ∨ y.2 = .cell → y.1 ∈ own.map (·.1) ∨ y.1 ∉ N
/-- the slots of the block's own names forgotten -/
def wipe (σ : St) : List Nat → St
  | [] => σ
  | v :: vs => (wipe σ vs).set v none
theorem wipe_length (σ : St) : ∀ vs : List Nat, (wipe σ vs).length = σ.length
  | [] => rfl
  | v :: vs => by unfold wipe; rw [List.length_set, wipe_length σ vs]
theorem wipe_some {σ : St} {i : Nat} {x : V} : ∀ {vs : List Nat}, (wipe σ vs)[i]? = some (some x) → σ[i]? = some (some x) ∧ i ∉ vs
  | [], h => ⟨h, by simp⟩
  | v :: vs, h => by
    unfold wipe at h
    by_cases hi : v = i
    · subst hi
      by_cases hv : v < (wipe σ vs).length
      · rw [List.getElem?_set_self hv] at h; cases h
      · rw [List.getElem?_eq_none (by simpa using hv)] at h; cases h
    · rw [List.getElem?_set_ne hi] at h
      obtain ⟨h1, h2⟩ := wipe_some h
      exact ⟨h1, by simp only [List.mem_cons, not_or]; exact ⟨fun e => hi e.symm, h2⟩⟩
/-- the context of a block that starts at s, its iterator's objects at fp -/
abbrev Cx.blk (X : Cx) (s : Shared) (H : Hp) (scope : Scope) (cenv : Env) (fp : List Addr) : Cx := { X with s_0 := s, H_0 := H, env := cenv, outer := X.stack, ex := fp, fn := fun x => scope.names.lookup x == some .cell, pn := [], xe := fun _ _ => False }
section
variable {X : Cx} {pins : List (Addr × Obj)} {σ : St} {H : Hp} {s : Shared}
theorem block_start {scope : Scope} {own : List (Str × Nat)} {fp : List Addr} (I : Inv X pins σ H s) (ok : BlkOk X.N X.env.scope scope own) (hN : X.N.Nodup) (hfp : ∀ b ∈ fp, FpOk X pins H b ∧ b < s.heap.objs.size) :
    Inv (X.blk s H scope (compEnvC scope (cellsFrom (s.heap.objs.size + 1) scope.names (cloFrom X.env.cells scope.names [])) s.heap.objs.size X.env) fp) [] (wipe σ (own.map (·.2))) H { s with heap := pushCells (s.heap.push { cls := .type "dict", data := .dict #[] }) scope.names } := by
  have hfree : ∀ y ∈ scope.names, y.2 = .free → ∃ c, X.env.cells.lookup y.1 = some c := fun y hy e => by
    rcases ok.free y hy e with k | k
    · exact I.ok.has _ (.inl k)
    · exact I.ok.has _ (.inr k)
  generalize hcenv : compEnvC scope (cellsFrom (s.heap.objs.size + 1) scope.names (cloFrom X.env.cells scope.names [])) s.heap.objs.size X.env = cenv
  have kp : ∀ b o, s.heap.get? b = some o → (pushCells (s.heap.push { cls := .type "dict", data := .dict #[] }) scope.names).get? b = some o := fun b o e => pushCells_keeps _ _ _ _ (Heap.get?_push_of_some _ e)
  have hL : cenv.locals = s.heap.objs.size := by rw [← hcenv]; rfl
  have hcl : cenv.cells = cellsFrom (s.heap.objs.size + 1) scope.names (cloFrom X.env.cells scope.names []) := by rw [← hcenv]; rfl
  have hsc : cenv.scope = relS scope X.env.scope := by rw [← hcenv]; rfl
  rw [← Heap.size_push s.heap { cls := .type "dict", data := .dict #[] }] at hcl
  have cm : ∀ {y c}, (y, c) ∈ cloFrom X.env.cells scope.names [] → X.env.cells.lookup y = some c ∧ c < s.heap.objs.size := fun {y c} hm => by
    rcases cloFrom_mem hm with hm | ⟨h1, rfl⟩
    · cases hm
    · obtain ⟨c, hc⟩ := hfree _ h1 rfl
      rw [hc]
      obtain ⟨w, z⟩ := I.cell _ _ hc
      exact ⟨rfl, z.lt⟩
  have mem : ∀ {y c}, cenv.cells.lookup y = some c → (X.env.cells.lookup y = some c ∧ c < s.heap.objs.size) ∨ (s.heap.objs.size + 1 ≤ c ∧ CellAt (pushCells (s.heap.push { cls := .type "dict", data := .dict #[] }) scope.names) c none) := fun {y c} e => by
    rw [hcl] at e
    rcases cells_mem (PySem.mem_of_lookup e) with hm | ⟨_, h2, h3⟩
    · exact .inl (cm hm)
    · rw [Heap.size_push] at h2; exact .inr ⟨h2, h3⟩
  have look : ∀ {y}, scope.names.lookup y = some .free → ∃ c, cenv.cells.lookup y = some c ∧ X.env.cells.lookup y = some c := fun {y} hl => by
    have hy : (y, NameKind.free) ∈ scope.names := PySem.mem_of_lookup hl
    obtain ⟨c', e'⟩ := mem_lookup (cells_acc (names := scope.names) (n := (s.heap.push { cls := .type "dict", data := .dict #[] }).objs.size) (cloFrom_has (cells := X.env.cells) (acc := []) hy))
    rw [← hcl] at e'
    refine ⟨c', e', ?_⟩
    rw [hcl] at e'
    rcases cells_mem (PySem.mem_of_lookup e') with hm | ⟨h1, _, _⟩
    · exact (cm hm).1
    · have := ok.uniq _ h1
      rw [hl] at this; cases this
  have okB : (X.blk s H scope cenv fp).Ok := by
    refine ⟨I.ok.mod, by show cenv.scope.kind = _; rw [hsc]; exact ok.kind, by show cenv.globals = _; rw [← hcenv]; exact I.ok.glob, by show cenv.builtins = _; rw [← hcenv]; exact I.ok.blt, by show s.heap.objs.size ≤ cenv.locals; rw [hL]; exact Nat.le_refl _,
      fun y z c e1 e2 => ?_, fun y hy => ?_, fun y c z e => ?_, I.ok.hd, I.ok.frames, .inl rfl, fun b hb => ⟨?_, fun y c e z => ?_⟩, I.bs, Nat.le_trans I.ok.bsz I.sz, fun b o e hb => ?_, fun b hb z => ?_, I.stack, I.stkFree⟩
    · have e1 : cenv.cells.lookup y = some c := e1
      have e2 : cenv.cells.lookup z = some c := e2
      rw [hcl] at e1 e2
      refine cells_inj (fun p hp => ?_) (fun y z c a b => I.ok.inj y z c (cm a).1 (cm b).1) (PySem.mem_of_lookup e1) (PySem.mem_of_lookup e2)
      rw [Heap.size_push]
      exact Nat.lt_succ_of_lt (cm (y := p.1) (c := p.2) hp).2
    · show ∃ c, cenv.cells.lookup y = some c
      have key : ∀ k, cenv.kindOf y = some k → (k = .cell ∨ k = .free) → ∃ c, cenv.cells.lookup y = some c := fun k hk hk' => by
        unfold Env.kindOf at hk
        rw [hsc] at hk
        obtain ⟨k', e, r⟩ := lookup_relS hk
        have : k' = .cell ∨ k' = .free := by
          rcases r with rfl | ⟨rfl, _⟩
          · exact hk'
          · exact .inr rfl
        rcases this with rfl | rfl
        · obtain ⟨c, hm⟩ := cells_has (n := (s.heap.push { cls := .type "dict", data := .dict #[] }).objs.size) (acc := cloFrom X.env.cells scope.names []) (PySem.mem_of_lookup e)
          obtain ⟨c', e'⟩ := mem_lookup hm
          exact ⟨c', by rw [hcl]; exact e'⟩
        · obtain ⟨c, h1, _⟩ := look e
          exact ⟨c, h1⟩
      rcases hy with hy | hy
      · exact key _ hy (.inl rfl)
      · exact key _ hy (.inr rfl)
    · have z : (scope.names.lookup y == some NameKind.cell) = true := z
      have z : scope.names.lookup y = some .cell := by simpa using z
      have e : cenv.cells.lookup y = some c := e
      rw [hcl] at e
      rcases cells_mem (PySem.mem_of_lookup e) with hm | ⟨_, h2, _⟩
      · rcases cloFrom_mem hm with hm | ⟨h1, _⟩
        · cases hm
        · have q := ok.uniq _ h1
          rw [z] at q; cases q
      · rw [Heap.size_push] at h2
        exact Nat.le_of_succ_le h2
    · show b ≠ cenv.locals
      rw [hL]; exact Nat.ne_of_lt (hfp b hb).2
    · have e : cenv.cells.lookup y = some c := e
      rcases mem e with ⟨h1, _⟩ | ⟨h1, _⟩
      · exact (hfp b hb).1.2.2.2.2.1 y c h1 z
      · have h2 : s.heap.objs.size + 1 ≤ b := by rw [← z]; exact h1
        exact absurd (Nat.lt_of_lt_of_le (hfp b hb).2 (Nat.le_of_succ_le h2)) (Nat.lt_irrefl _)
    · rcases (hfp b hb).1.2.2.2.1 with z | z
      · exact I.ok.noex b o e z
      · exact absurd (Nat.lt_of_lt_of_le (Heap.lt_size e) (Nat.le_trans I.ok.bsz z)) (Nat.lt_irrefl _)
    · rcases List.mem_cons.mp (I.stkSub b z) with z | z
      · exact (hfp b hb).1.2.1 z
      · exact (hfp b hb).1.2.2.1 z
  refine ⟨okB, rfl, I.bare, Un.kept kp, ⟨fun _ => none, ?_, fun i y av e1 e2 e3 => ?_⟩, fun y c e => ?_, ?_, fun y c e => ?_, fun p hp => ?_, I.hok.kept kp, by rw [wipe_length]; exact I.len⟩
  · show Heap.Ns _ cenv.locals _
    rw [hL]
    exact Heap.Ns.keeps (Heap.Ns.new ..) fun b o e => pushCells_keeps _ _ _ _ e
  · obtain ⟨e2, hne⟩ := wipe_some e2
    have hfr : scope.names.lookup y = some .free ∧ (cenv.kindOf y = some .cell ∨ cenv.kindOf y = some .free) := by
      have key : ∀ k, cenv.scope.names.lookup y = some k → k = .local ∨ k = .cell ∨ k = .free → scope.names.lookup y = some .free ∧ (cenv.kindOf y = some .cell ∨ cenv.kindOf y = some .free) := fun k hk hk' => by
        have hk0 := hk
        rw [hsc] at hk
        obtain ⟨k', e, r⟩ := lookup_relS hk
        have no : ¬ (k' = .local ∨ k' = .cell) := fun hh => by
          rcases ok.own _ (PySem.mem_of_lookup e) hh with e' | e'
          · obtain ⟨p, hp, hpy⟩ := List.mem_map.mp e'
            have e3 := ok.ix p hp
            have : p.1 = y := hpy
            rw [this] at e3
            exact hne (List.mem_map.mpr ⟨p, hp, nodup_ix hN e3 e1⟩)
          · exact e' (List.mem_of_getElem? e1)
        rcases r with rfl | ⟨rfl, rfl⟩
        · rcases hk' with rfl | rfl | rfl
          · exact absurd (.inl rfl) no
          · exact absurd (.inr rfl) no
          · exact ⟨e, .inr hk0⟩
        · exact ⟨e, .inl hk0⟩
      have e3 : Vis cenv.scope y := e3
      rcases e3 with e3 | e3 | e3
      · exact key _ e3 (.inl rfl)
      · exact key _ e3 (.inr (.inl rfl))
      · exact key _ e3 (.inr (.inr rfl))
    obtain ⟨m, hn, hl⟩ := I.loc
    have hvis : Vis X.env.scope y := (ok.free _ (PySem.mem_of_lookup hfr.1) rfl).elim (fun k => .inr (.inl k)) (fun k => .inr (.inr k))
    obtain ⟨w, r, q⟩ := hl i y av e1 e2 hvis
    refine ⟨w, r, .inr ⟨hfr.2, ?_⟩⟩
    obtain ⟨c, h1, h2⟩ := look hfr.1
    rcases q with ⟨k, _⟩ | ⟨_, c', e', z⟩
    · have k : X.env.scope.names.lookup y = some .local := k
      rcases ok.free _ (PySem.mem_of_lookup hfr.1) rfl with k' | k' <;> rw [show X.env.scope.names.lookup y = _ from k'] at k <;> cases k
    · rw [h2] at e'; cases e'
      exact ⟨c, h1, z.keeps kp⟩
  · have e : cenv.cells.lookup y = some c := e
    rcases mem e with ⟨h1, _⟩ | ⟨_, z⟩
    · obtain ⟨w, z⟩ := I.cell y c h1
      exact ⟨w, z.keeps kp⟩
    · exact ⟨_, z⟩
  · show H cenv.locals = none
    rw [hL]; exact I.hok.fresh (Nat.le_refl _)
  · have e : cenv.cells.lookup y = some c := e
    rcases mem e with ⟨h1, _⟩ | ⟨h1, _⟩
    · exact I.freeC y c h1
    · exact I.hok.fresh (Nat.le_of_succ_le h1)
  · exact absurd (show p ∈ ([] : List (Addr × Obj)) ++ [] from hp) (by simp)
/-- an item appended to a tracked list -/
theorem app_ok {E : Value → Shared → Prop} {D : Addr} {xs : List V} {y : V} {v : Value} {Q : Value → Shared → Prop} (I : Inv X pins σ H s) (hD : H D = some (.lst xs)) (hz : xs.length < sizeLine) (r : RelV y v)
    (h : ∀ s', Inv X pins σ (upd H D (.lst (xs ++ [y]))) s' → Q .none s') : wpAny (model X.prog X.w) X.A (call (.builtin "list.append") [.ref D, v]) Q E s := by
  obtain ⟨hz', its, n, ri, e⟩ := I.hok D _ hD
  have hl := ri.length
  refine append_at (hsz := by rw [List.size_toArray]; omega) e fun h' sb ho' => ?_
  refine h { s with heap := h' } (I.write (t' := s.toks) (by rw [hD]; trivial) (.inl rfl) (fun b u hb q => (sb.2 b hb).trans q) ⟨_, ho'⟩ ⟨by rw [List.length_append]; exact hz, its ++ [v], n + 1, ri.append (.cons r .nil), ?_⟩)
  rw [ho']
  simp
/-- a clause's tests -/
def PTs (X : Cx) (ifs : List Expr) (t : TT) : Prop :=
  ∀ (pins : List (Addr × Obj)) (s : Shared) (σ : St) (H : Hp) (Q : Bool → Hp → Prop), Inv X pins σ H s → t σ H Q →
    wpAny (model X.prog X.w) X.A (forIn ifs true fun c r => if r = true then do let ok ← isTrue c X.env (eval c X.env); pure (ForInStep.yield ok) else pure (ForInStep.yield r)) (TP X pins σ Q) X.xe s
def tYes : TT := fun _ H Q => Q true H
theorem pts_nil : PTs X [] tYes := fun _ _ _ H _ I h => wpAny_tests_nil ⟨H, I, h⟩
theorem pts_one {c : Expr} {t : TT} (h : PT X c t) : PTs X [c] t := fun pins s σ H Q I hw => wpAny_tests_one (h pins s σ H Q I hw)
end
theorem thnF {α : Type} {t : Sem α} {Q Q' : α → Shared → Prop} {M : Model} {A : Around} {E : Value → Shared → Prop} {s : Shared} (h : wpAny M A t Q (fun _ _ => False) s) (hQ : ∀ a s, Q a s → Q' a s) : wpAny M A t Q' E s := wpAny_mono h hQ fun _ _ z => False.elim z
/-- the loop of a list comprehension's block, the target of any form (codeAny_compLoop_tests asks a target that no tuple goes to; statement and proof follow it, PyProof/CompMap.lean:41-61, with the step letOwnedTupleGo kept) -/
theorem compLoop_any {prog : Program} {w : World} {A : Around} {R : Result → Shared → Prop} {s : Shared} {elt target iter : Expr} {ifs : List Expr} {scope : Scope} {pos : Pos} {it acc : Value} {env : Env} (I : Nat → Shared → Prop)
    (turn : ∀ n s, I n s → wpAny (model prog w) A (pyNext it) (fun r s₁ => match r with
      | none => R (.ok .next) s₁
      | some v => wpAny (model prog w) A (letOwnedTupleGo target it v) (fun _ s₁' => wpAny (model prog w) A (assign target env v) (fun _ s₂ =>
          wpAny (model prog w) A (forIn ifs true fun c r => if r = true then do let ok ← isTrue c env (eval c env); pure (ForInStep.yield ok) else pure (ForInStep.yield r)) (fun ok s₃ =>
            if ok = true then wpAny (model prog w) A (eval elt env) (fun x s₄ =>
              wpAny (model prog w) A (call (.builtin "list.append") [acc, x]) (fun _ s₅ => ∃ m, m < n ∧ I m s₅) (notedBy (model prog w) A env fun e s' => R (.error e) s') s₄) (notedBy (model prog w) A env fun e s' => R (.error e) s') s₃
            else ∃ m, m < n ∧ I m s₃) (notedBy (model prog w) A env fun e s' => R (.error e) s') s₂) (notedBy (model prog w) A env fun e s' => R (.error e) s') s₁') (notedBy (model prog w) A env fun e s' => R (.error e) s') s₁) (notedBy (model prog w) A env fun e s' => R (.error e) s') s)
    (n : Nat) (h : I n s) :
    codeAny (model prog w) A (.compLoop (.ListComp elt [⟨target, iter, ifs, 0⟩] scope pos) 0 it acc env) R s := by
  refine codeAny_loop rfl I (fun n s hI => ?_) n h
  show wpAny _ A ((compTurn (.ListComp elt [⟨target, iter, ifs, 0⟩] scope pos) 0 it acc env).onRaise (fun x => do noteFrame x env; theTreesLotGoes x)) _ _ s
  refine wpAny_noted ?_
  rw [compTurn_list]
  refine wpAny_bind (wpAny_standAt (wpAny_bind (wpAny_mono (turn n s hI) (fun r s₁ h₁ => ?_) fun _ _ h' => h')))
  cases r with
  | none => exact wpAny_pure h₁
  | some v =>
    refine wpAny_bind (wpAny_mono h₁ (fun _ s₁' h₁' => ?_) fun _ _ h' => h')
    refine wpAny_bind (wpAny_mono h₁' (fun _ s₂ h₂ => wpAny_bind (wpAny_mono h₂ (fun ok s₃ h₃ => ?_) fun _ _ h' => h')) fun _ _ h' => h')
    cases ok with
    | false => exact wpAny_pure ⟨rfl, h₃⟩
    | true =>
      exact wpAny_bind (wpAny_bind (wpAny_mono h₃ (fun x s₄ h₄ => wpAny_bind (wpAny_mono h₄ (fun _ s₅ h₅ => wpAny_pure (wpAny_pure ⟨rfl, h₅⟩)) fun _ _ h' => h')) fun _ _ h' => h'))
section
variable {X : Cx}
/-- [elt for target in iter if ..]: D the new list; W by the turn and a measure, Nx what a turn is to reach -/
def tLc (wi : TI) (g : TG) (tt : TT) (te : TE) (vs : List Nat) : TE := fun σ H Q => wi σ H fun J H1 => ∀ D, H1 D = none → ∃ W : Nat → Nat → Hp → Prop, (∃ m, W 0 m (upd H1 D (.lst []))) ∧ ∀ i m H, W i m H →
  (J.stop i H ∧ Q (.ref D) H) ∨ (J.go i H ∧ ∃ Nx : Hp → Prop, (∀ H', Nx H' → ∃ m', m' < m ∧ W (i + 1) m' H') ∧ ∀ x H', J.yld i H x H' → g x (wipe σ vs) H' fun σ2 H2 => wipe σ2 vs = wipe σ vs ∧ tt σ2 H2 fun b H3 =>
    if b = true then te σ2 H3 fun y H4 => ∃ acc, H4 D = some (.lst acc) ∧ acc.length < sizeLine ∧ Nx (upd H4 D (.lst (acc ++ [y]))) else Nx H3)
theorem lc_core {pins : List (Addr × Obj)} {s : Shared} {σ : St} {H : Hp} {Q : VK} {elt tg iter : Expr} {ifs : List Expr} {scope : Scope} {own : List (Str × Nat)} {pos pos' : Pos} {wi : TI} {g : TG} {tt : TT} {te : TE} {use : Option (Value → Sem Unit)} {Qf : Value → Shared → Prop}
    (hc : X.calm = true) (hN : X.N.Nodup) (I : Inv X pins σ H s) (hi : PI X tg iter wi) (ok : BlkOk X.N X.env.scope scope own)
    (hg : ∀ (s : Shared) (H : Hp) (C : Addr) (cl : List (Str × Addr)) (fp : List Addr), PG (X.blk s H scope (compEnvC scope cl C X.env) fp) tg g) (ht : ∀ (s : Shared) (H : Hp) (C : Addr) (cl : List (Str × Addr)) (fp : List Addr), PTs (X.blk s H scope (compEnvC scope cl C X.env) fp) ifs tt)
    (he : ∀ (s : Shared) (H : Hp) (C : Addr) (cl : List (Str × Addr)) (fp : List Addr), PE (X.blk s H scope (compEnvC scope cl C X.env) fp) elt te) (hs : ∀ x, foldedSetIterable iter X.env x = pure x)
    (h : tLc wi g tt te (own.map (·.2)) σ H Q)
    (hRR : ∀ D C s' m H', Inv X pins σ H' s' → Q (.ref D) H' → s'.heap.Ns C m → FpOk X pins H' C → compPost (model X.prog X.w) X.A X.xe use Qf (.ref D) C (.ok .next) s') :
    wpAny (model X.prog X.w) X.A (comprehension (.ListComp elt [⟨tg, iter, ifs, 0⟩] scope pos) scope X.env pos' (newList []) false (eval iter X.env) use) Qf X.xe s := by
  have hfree : ∀ y ∈ scope.names, y.2 = .free → ∃ c, X.env.cells.lookup y.1 = some c := fun y hy e => by
    rcases ok.free y hy e with k | k
    · exact I.ok.has _ (.inl k)
    · exact I.ok.has _ (.inr k)
  refine wpAny_comprehension_free (use := use) rfl hs (closure_ok hfree) ok.kind (fun y hy e => by rw [ok.uniq y hy, e])
    (thn (hi pins s σ H _ I h) fun xv s1 hx => thn hx fun itv s2 h2 => ?_)
  obtain ⟨it, fp, tn, J, H2, e, I2, T, st2, f2, q⟩ := h2
  subst e
  refine wpAny_newObj_type (newEnv_comp ?_) (by show 0 ≤ sizeLine; decide)
  generalize hD : s2.heap.objs.size = D
  have hDn : H2 D = none := I2.hok.fresh (Nat.le_of_eq hD)
  obtain ⟨W, ⟨m0, w0⟩, turn⟩ := q D hDn
  -- the new list
  generalize hs3 : ({ s2 with heap := s2.heap.push { cls := .type "list", data := .seq ([] : List Value).toArray } } : Shared) = s3
  have I3 : Inv X pins σ (upd H2 D (.lst [])) s3 := by
    rw [← hs3]
    refine I2.laid (t' := s2.toks) (fun b o e => Heap.get?_push_of_some _ e) (Nat.le_of_eq hD) ⟨Nat.zero_le _, [], 0, .nil, ?_⟩
    rw [← hD]
    exact Heap.get?_push_size _ rfl
  have h3 : s3.heap = s2.heap.push { cls := .type "list", data := .seq ([] : List Value).toArray } := by rw [← hs3]
  have sz : ∀ b ∈ fp, b < s2.heap.objs.size := fun b hb => by
    obtain ⟨o, e, _⟩ := T.obj _ _ st2 b hb
    exact Heap.lt_size e
  have f3 : ∀ b ∈ fp, FpOk X pins (upd H2 D (.lst [])) b ∧ b < s3.heap.objs.size := fun b hb => by
    have hlt := sz b hb
    refine ⟨⟨?_, (f2 b hb).2⟩, by rw [h3, Heap.size_push]; exact Nat.lt_succ_of_lt hlt⟩
    rw [upd_ne (by rw [← hD]; exact Nat.ne_of_lt hlt)]
    exact (f2 b hb).1
  have st3 : tn 0 s3.heap := T.keep _ _ _ st2 fun b _ o e => by rw [h3]; exact Heap.get?_push_of_some _ e
  have I4 := block_start I3 ok hN f3
  have pg := hg s3 (upd H2 D (.lst [])) s3.heap.objs.size (cellsFrom (s3.heap.objs.size + 1) scope.names (cloFrom X.env.cells scope.names [])) fp
  have pt := ht s3 (upd H2 D (.lst [])) s3.heap.objs.size (cellsFrom (s3.heap.objs.size + 1) scope.names (cloFrom X.env.cells scope.names [])) fp
  have pe := he s3 (upd H2 D (.lst [])) s3.heap.objs.size (cellsFrom (s3.heap.objs.size + 1) scope.names (cloFrom X.env.cells scope.names [])) fp
  show codeAny _ _ (.compStart (.ListComp elt [⟨tg, iter, ifs, 0⟩] scope pos) 0 (.ref it) (.ref D) (compEnvC scope (cellsFrom (s3.heap.objs.size + 1) scope.names (cloFrom X.env.cells scope.names [])) s3.heap.objs.size X.env)) (compPost (model X.prog X.w) X.A X.xe use Qf (.ref D) s3.heap.objs.size) { s3 with heap := pushCells (s3.heap.push { cls := .type "dict", data := .dict #[] }) scope.names }
  have nfp : ∀ b ∈ fp, (upd H2 D (.lst [])) b = none := fun b hb => (f3 b hb).1.1
  generalize hce : compEnvC scope (cellsFrom (s3.heap.objs.size + 1) scope.names (cloFrom X.env.cells scope.names [])) s3.heap.objs.size X.env = ce at I4 pg pt pe ⊢
  have cL : ce.locals = s3.heap.objs.size := by subst hce; rfl
  generalize hH3 : upd H2 D (.lst []) = H3 at I3 I4 pg pt pe w0 nfp f3
  generalize hs4 : ({ s3 with heap := pushCells (s3.heap.push { cls := .type "dict", data := .dict #[] }) scope.names } : Shared) = s4 at I4 ⊢
  have st4 : tn 0 s4.heap := T.keep _ _ _ st3 fun b _ o e => by rw [← hs4]; exact pushCells_keeps _ _ _ _ (Heap.get?_push_of_some _ e)
  have stat : ∀ {σ' : St} {H' : Hp} {s' : Shared}, Inv (X.blk s3 H3 scope ce fp) [] σ' H' s' → (∀ b ∈ fp, H' b = none) → ∀ b ∈ fp, FpOk (X.blk s3 H3 scope ce fp) [] H' b := fun {σ' H' s'} I' hn b hb =>
    ⟨hn b hb, (I'.ok.exf b hb).1, I'.ok.exfs b hb, .inl hb, fun x c e => (I'.ok.exf b hb).2 x c e, fun p hp => absurd (show p ∈ ([] : List (Addr × Obj)) ++ [] from hp) (by simp)⟩
  have loop : codeAny (model X.prog X.w) X.A (.compLoop (.ListComp elt [⟨tg, iter, ifs, 0⟩] scope pos) 0 (.ref it) (.ref D) ce) (compPost (model X.prog X.w) X.A X.xe use Qf (.ref D) s3.heap.objs.size) s4 := by
    refine compLoop_any (fun n s' => ∃ i H', Inv (X.blk s3 H3 scope ce fp) [] (wipe σ (own.map (·.2))) H' s' ∧ tn i s'.heap ∧ (∀ b ∈ fp, H' b = none) ∧ W i n H') ?_ m0 ⟨0, H3, I4, st4, nfp, w0⟩
    rintro n s5 ⟨i, H5, I5, st5, n5, w5⟩
    rcases turn i n H5 w5 with ⟨stop, qq⟩ | ⟨go, Nx, hNx, step⟩
    · have td := T.done (X.blk s3 H3 scope ce fp) rfl rfl rfl hc i [] s5 _ H5 (fun _ _ => False) I5 (stat I5 n5) st5 stop
      refine thnF td fun r s6 ⟨hr, I6⟩ => ?_
      subst hr
      -- back in the def's context
      have I7 : Inv X pins σ H5 s6 := I3.call' (ch := fp) I6.os I6.base I6.hok I6.bare fun b hb => ⟨(f3 b hb).1.2.2.2.1, (f3 b hb).1.2.1, (f3 b hb).1.2.2.2.2.1, (f3 b hb).1.2.2.2.2.2⟩
      have nC : H5 s3.heap.objs.size = none := by
        have z : H5 ce.locals = none := I6.free
        rw [cL] at z
        exact z
      obtain ⟨m, hn, _⟩ := I6.loc
      have hn : s6.heap.Ns ce.locals m := hn
      rw [cL] at hn
      exact hRR D s3.heap.objs.size s6 m H5 I7 qq hn (I3.fpOk (Nat.le_refl _) nC)
    · have ti := T.item (X.blk s3 H3 scope ce fp) rfl rfl rfl hc i [] s5 _ H5 (fun _ _ => False) I5 (stat I5 n5) st5 go
      refine thnF ti fun r s6 ⟨u, hr, h6⟩ => ?_
      subst hr
      refine thnF h6 fun _ s7 ⟨x, H7, I7, r7, y7, st7, n7⟩ => ?_
      have I7' := I7.pinned (stat I7 n7) (T.obj _ _ st7)
      refine thnF (pg _ s7 _ H7 x u _ I7' r7 (step x H7 y7)) fun _ s8 ⟨σ8, H8, I8, hw8, q8⟩ => ?_
      refine thnF (pt _ s8 σ8 H8 _ I8 q8) fun b s9 ⟨H9, I9, q9⟩ => ?_
      -- the turn's end
      have fin : ∀ {s' : Shared} {H' : Hp}, Inv (X.blk s3 H3 scope ce fp) ([] ++ pinsAt fp s7.heap) σ8 H' s' → Nx H' → ∃ m, m < n ∧ ∃ i H', Inv (X.blk s3 H3 scope ce fp) [] (wipe σ (own.map (·.2))) H' s' ∧ tn i s'.heap ∧ (∀ b ∈ fp, H' b = none) ∧ W i m H' := fun {s' H'} I' nx => by
        obtain ⟨m', hm, w'⟩ := hNx H' nx
        have pin' : ∀ b ∈ fp, ∀ o, s7.heap.get? b = some o → s'.heap.get? b = some o ∧ H' b = none := fun b hb o e =>
          let z := I'.pin (b, o) (List.mem_append_right _ (List.mem_append_right _ (mem_pinsAt hb e)))
          ⟨z.1, z.2.1⟩
        have hl : (wipe σ (own.map (·.2))).length = σ8.length := by rw [← hw8, wipe_length]
        refine ⟨m', hm, i + 1, H', (I'.unpinned (pins := [])).weak hl (fun j v e => ?_), T.keep _ _ _ st7 fun b hb o e => (pin' b hb o e).1, fun b hb => ?_, w'⟩
        · rw [← hw8] at e
          exact (wipe_some e).1
        · obtain ⟨o, e, _⟩ := T.obj _ _ st7 b hb
          exact (pin' b hb o e).2
      cases b with
      | false =>
        simp only [Bool.false_eq_true, if_false] at q9 ⊢
        exact fin I9 q9
      | true =>
        simp only [if_true] at q9 ⊢
        refine thnF (pe _ s9 σ8 H9 _ I9 q9) fun z s10 ⟨yv, H10, I10, r10, acc, hD10, hz10, nx⟩ => ?_
        exact app_ok (X := X.blk s3 H3 scope ce fp) I10 hD10 hz10 r10 fun s11 I11 => fin I11 nx
  exact codeAny_compStart_list loop (T.self X.A 0 _ _ _ st4 loop)
/-- as a value -/
theorem pe_lc {elt tg iter : Expr} {ifs : List Expr} {scope : Scope} {own : List (Str × Nat)} {pos : Pos} {wi : TI} {g : TG} {tt : TT} {te : TE} (hc : X.calm = true) (hN : X.N.Nodup) (hi : PI X tg iter wi) (ok : BlkOk X.N X.env.scope scope own)
    (hg : ∀ (s : Shared) (H : Hp) (C : Addr) (cl : List (Str × Addr)) (fp : List Addr), PG (X.blk s H scope (compEnvC scope cl C X.env) fp) tg g) (ht : ∀ (s : Shared) (H : Hp) (C : Addr) (cl : List (Str × Addr)) (fp : List Addr), PTs (X.blk s H scope (compEnvC scope cl C X.env) fp) ifs tt)
    (he : ∀ (s : Shared) (H : Hp) (C : Addr) (cl : List (Str × Addr)) (fp : List Addr), PE (X.blk s H scope (compEnvC scope cl C X.env) fp) elt te) (hs : ∀ x, foldedSetIterable iter X.env x = pure x := by intro _; rfl) :
    PE X (.ListComp elt [⟨tg, iter, ifs, 0⟩] scope pos) (tLc wi g tt te (own.map (·.2))) := by
  intro pins s σ H Q I h
  rw [eval_ListComp]
  refine lc_core hc hN I hi ok hg ht he hs h fun D C s' m H' I' q hn f => ⟨m, hn, fun h'' sb => ?_⟩
  obtain ⟨f0, f1, f2, f3, f4, f5⟩ := f
  exact ⟨.ref D, H', I'.turned (t' := s'.toks) (fun b o hb e => (sb.2 b hb).trans e) f0 f1 f3 f4 f5, rfl, q⟩
/-- name = [..] on one line, the name a local -/
theorem ps_setLc {i : Nat} {y : Str} {py : Pos} {elt tg iter : Expr} {ifs : List Expr} {scope : Scope} {own : List (Str × Nat)} {pos spos : Pos} {wi : TI} {g : TG} {tt : TT} {te : TE} (hc : X.calm = true) (hN : X.N.Nodup) (hy : X.N[i]? = some y) (hyl : X.env.scope.names.lookup y = some .local)
    (hsw : swapsWith (.ListComp elt [⟨tg, iter, ifs, 0⟩] scope pos) (some (.Name y py)) spos.line X.env = pure true) (hi : PI X tg iter wi) (ok : BlkOk X.N X.env.scope scope own)
    (hg : ∀ (s : Shared) (H : Hp) (C : Addr) (cl : List (Str × Addr)) (fp : List Addr), PG (X.blk s H scope (compEnvC scope cl C X.env) fp) tg g) (ht : ∀ (s : Shared) (H : Hp) (C : Addr) (cl : List (Str × Addr)) (fp : List Addr), PTs (X.blk s H scope (compEnvC scope cl C X.env) fp) ifs tt)
    (he : ∀ (s : Shared) (H : Hp) (C : Addr) (cl : List (Str × Addr)) (fp : List Addr), PE (X.blk s H scope (compEnvC scope cl C X.env) fp) elt te) (hs : ∀ x, foldedSetIterable iter X.env x = pure x := by intro _; rfl) :
    PS X (.Assign [.Name y py] (.ListComp elt [⟨tg, iter, ifs, 0⟩] scope pos) spos) (tAsg (tLc wi g tt te (own.map (·.2))) (gName i)) := by
  intro pins s σ H D I h
  rw [exec_Assign_Name_used _ _ _ _ hsw]
  refine wpAny_bind (wpAny_standAt (wpAny_bind ?_))
  show wpAny _ X.A (do let _ ← comprehension (.ListComp elt [⟨tg, iter, ifs, 0⟩] scope pos) scope X.env (firstIterPos [⟨tg, iter, ifs, 0⟩] pos) (newList []) false (eval iter X.env) (some (assign (.Name y py) X.env))) _ _ s
  have h : tLc wi g tt te (own.map (·.2)) σ H (fun x H1 => gName i x σ H1 D.nx) := h
  refine wpAny_bind (thn (lc_core (Qf := fun _ s' => SP X pins D .next s') hc hN I hi ok hg ht he hs h fun L C s' m H' I' q hn f => ?_) fun _ s' hq => wpAny_pure (wpAny_pure hq))
  show wpAny _ _ (assign (.Name y py) X.env (.ref L)) _ _ _
  refine wpAny_assign_Name (store_ok2 (v := V.ref L) I' hN hy (.inl hyl) rfl (fun s2 I2 ⟨a, sb, ha⟩ => ?_) (.inr hyl))
  obtain ⟨f0, f1, f2, f3, f4, f5⟩ := f
  have haC : C ≠ a := by
    rcases ha with z | z
    · rw [z]; exact f1
    · exact fun e => f4 y a z e.symm
  refine ⟨m, hn.sameBut sb haC, fun h3 sb3 => ?_⟩
  exact ⟨_, H', I2.turned (t' := s2.toks) (fun b o hb e => (sb3.2 b hb).trans e) f0 f1 f3 f4 f5, q⟩
theorem sw_true {elt : Expr} {gs : List Comprehension} {scope : Scope} {pos py : Pos} {y : Str} {l : Nat} {env : Env} (hk : env.scope.kind = .function) (hy : env.scope.names.lookup y = some .local) (hl : (py.line == pos.line) = true)
    (ha : (scope.names.any fun (n, k) => n == y && (k == .local || k == .cell)) = false) : swapsWith (.ListComp elt gs scope pos) (some (.Name y py)) l env = pure true := by
  have ky : env.kindOf y = some .local := hy
  have hb : env.blockKind = .function := by unfold Env.blockKind; rw [hk]; rfl
  unfold swapsWith
  simp only [hb, ky, ha, Expr.pos, hl]
  rfl
end
/-- over a range: Pv by the turn and the heap (the new list at D within) -/
theorem lc_range {lo : Int} {n : Nat} {g : TG} {tt : TT} {te : TE} {vs : List Nat} {σ : St} {H1 : Hp} {D : Addr} {Qd : Hp → Prop} (Pv : Nat → Hp → Prop) (h0 : Pv 0 (upd H1 D (.lst [])))
    (hs : ∀ i H, i < n → Pv i H → g (.int (lo + i)) (wipe σ vs) H fun σ2 H2 => wipe σ2 vs = wipe σ vs ∧ tt σ2 H2 fun b H3 =>
      if b = true then te σ2 H3 fun y H4 => ∃ acc, H4 D = some (.lst acc) ∧ acc.length < sizeLine ∧ Pv (i + 1) (upd H4 D (.lst (acc ++ [y]))) else Pv (i + 1) H3) (hd : ∀ H, Pv n H → Qd H) :
    ∃ W : Nat → Nat → Hp → Prop, (∃ m, W 0 m (upd H1 D (.lst []))) ∧ ∀ i m H, W i m H →
      ((Itr lo n).stop i H ∧ Qd H) ∨ ((Itr lo n).go i H ∧ ∃ Nx : Hp → Prop, (∀ H', Nx H' → ∃ m', m' < m ∧ W (i + 1) m' H') ∧ ∀ x H', (Itr lo n).yld i H x H' → g x (wipe σ vs) H' fun σ2 H2 => wipe σ2 vs = wipe σ vs ∧ tt σ2 H2 fun b H3 =>
        if b = true then te σ2 H3 fun y H4 => ∃ acc, H4 D = some (.lst acc) ∧ acc.length < sizeLine ∧ Nx (upd H4 D (.lst (acc ++ [y]))) else Nx H3) := by
  refine ⟨fun i m H => m = n - i ∧ i ≤ n ∧ Pv i H, ⟨n, by simp, Nat.zero_le _, h0⟩, ?_⟩
  rintro i m H ⟨rfl, hi, p⟩
  by_cases hlt : i < n
  · refine .inr ⟨hlt, Pv (i + 1), fun H' p' => ⟨n - (i + 1), by omega, rfl, hlt, p'⟩, fun x H' y => ?_⟩
    obtain ⟨e, y⟩ := y
    subst e y
    exact hs i _ hlt p
  · have e : i = n := by omega
    subst e
    exact .inl ⟨Nat.le_refl _, hd H p⟩
/-- over a list that the block leaves as it is -/
theorem lc_list {K : PySem.W.Frag} {a : Addr} {xs : List V} {g : TG} {tt : TT} {te : TE} {vs : List Nat} {σ : St} {H1 : Hp} {D : Addr} {Qd : Hp → Prop} (Pv : Nat → Hp → Prop) (h0 : Pv 0 (upd H1 D (.lst []))) (hl : ∀ i H, i ≤ xs.length → Pv i H → SqL K H a xs)
    (hs : ∀ i x H, xs[i]? = some x → Pv i H → g x (wipe σ vs) H fun σ2 H2 => wipe σ2 vs = wipe σ vs ∧ tt σ2 H2 fun b H3 =>
      if b = true then te σ2 H3 fun y H4 => ∃ acc, H4 D = some (.lst acc) ∧ acc.length < sizeLine ∧ Pv (i + 1) (upd H4 D (.lst (acc ++ [y]))) else Pv (i + 1) H3) (hd : ∀ H, Pv xs.length H → Qd H) :
    ∃ W : Nat → Nat → Hp → Prop, (∃ m, W 0 m (upd H1 D (.lst []))) ∧ ∀ i m H, W i m H →
      ((Itl K a).stop i H ∧ Qd H) ∨ ((Itl K a).go i H ∧ ∃ Nx : Hp → Prop, (∀ H', Nx H' → ∃ m', m' < m ∧ W (i + 1) m' H') ∧ ∀ x H', (Itl K a).yld i H x H' → g x (wipe σ vs) H' fun σ2 H2 => wipe σ2 vs = wipe σ vs ∧ tt σ2 H2 fun b H3 =>
        if b = true then te σ2 H3 fun y H4 => ∃ acc, H4 D = some (.lst acc) ∧ acc.length < sizeLine ∧ Nx (upd H4 D (.lst (acc ++ [y]))) else Nx H3) := by
  refine ⟨fun i m H => m = xs.length - i ∧ i ≤ xs.length ∧ Pv i H, ⟨xs.length, by simp, Nat.zero_le _, h0⟩, ?_⟩
  rintro i m H ⟨rfl, hi, p⟩
  have q := hl i H hi p
  by_cases hlt : i < xs.length
  · refine .inr ⟨⟨xs, xs[i], q, by simp [hlt]⟩, Pv (i + 1), fun H' p' => ⟨xs.length - (i + 1), by omega, rfl, hlt, p'⟩, fun x H' y => ?_⟩
    obtain ⟨e, y⟩ := y
    subst e
    exact hs i x _ (y xs q) p
  · have e : i = xs.length := by omega
    subst e
    exact .inl ⟨⟨xs, q, Nat.le_refl _⟩, hd H p⟩
def blkC (N : List Str) (sc scope : Scope) (own : List (Str × Nat)) : Bool :=
  (match scope.kind with | .function => true | _ => false) && (scope.names.all fun y => decide (scope.names.lookup y.1 = some y.2)) && (own.all fun p => decide (N[p.2]? = some p.1)) &&
    (scope.names.all fun y => match y.2 with
      | .free => (match sc.names.lookup y.1 with | some .cell => true | some .free => true | _ => false)
      | .local => decide (y.1 ∈ own.map (·.1)) || decide (y.1 ∉ N)
      | .cell => decide (y.1 ∈ own.map (·.1)) || decide (y.1 ∉ N)
      | _ => true)
theorem blkOk_by {N : List Str} {sc scope : Scope} {own : List (Str × Nat)} (h : blkC N sc scope own = true) : BlkOk N sc scope own := by
  unfold blkC at h
  simp only [Bool.and_eq_true, List.all_eq_true, decide_eq_true_eq] at h
  obtain ⟨⟨⟨h1, h2⟩, h3⟩, h4⟩ := h
  refine ⟨?_, h2, h3, fun y hy e => ?_, fun y hy e => ?_⟩
  · split at h1
    · assumption
    · cases h1
  · have q := h4 y hy
    simp only [e] at q
    split at q <;> first | exact .inl (by assumption) | exact .inr (by assumption) | cases q
  · have q := h4 y hy
    rcases e with e | e <;> (simp only [e, Bool.or_eq_true, decide_eq_true_eq] at q; exact q)
end L2
namespace L2
open PySem PySem.Spec PyProof.Rows
section
variable {prog : Program} {w : World} {A : Around} {R : Result → Shared → Prop} {s : Shared} {elt t0 i0 t1 i1 : Expr} {ifs0 ifs1 : List Expr} {scope : Scope} {pos : Pos} {it acc : Value} {env : Env}
end
section
variable {X : Cx}
end
end L2
namespace L2
open PySem PySem.Spec PyProof.Rows
section
variable {κ : Type} [DecidableEq κ]
def valV (kvs : List (κ × V)) (k : κ) : Option V := (kvs.find? fun kv => decide (kv.1 = k)).map (·.2)
/-- in its place, or at the end -/
def putK (kvs : List (κ × V)) (k : κ) (v : V) : List (κ × V) :=
  if (kvs.any fun kv => decide (kv.1 = k)) = true then kvs.map (fun kv => if kv.1 = k then (kv.1, v) else kv) else kvs ++ [(k, v)]
theorem valV_pos {p : κ × V} {r : List (κ × V)} {k : κ} (e : p.1 = k) : valV (p :: r) k = some p.2 := by simp [valV, List.find?_cons, e]
theorem valV_neg {p : κ × V} {r : List (κ × V)} {k : κ} (e : ¬ p.1 = k) : valV (p :: r) k = valV r k := by simp [valV, List.find?_cons, e]
theorem valV_any (k : κ) : ∀ kvs : List (κ × V), (kvs.any fun kv => decide (kv.1 = k)) = (valV kvs k).isSome
  | [] => rfl
  | p :: r => by
    rw [List.any_cons]
    by_cases e : p.1 = k
    · simp only [valV_pos e, decide_eq_true e, Bool.true_or, Option.isSome_some]
    · rw [valV_neg e, decide_eq_false e, Bool.false_or]; exact valV_any k r
theorem valV_map (k j : κ) (y : V) : ∀ kvs : List (κ × V), valV (kvs.map fun kv => if kv.1 = k then (kv.1, y) else kv) j = (valV kvs j).map fun x => if j = k then y else x
  | [] => rfl
  | p :: r => by
    have ih := valV_map k j y r
    rw [List.map_cons]
    by_cases h : p.1 = k
    · rw [if_pos h]
      by_cases e : p.1 = j
      · rw [valV_pos (p := (p.1, y)) e, valV_pos e, Option.map_some, if_pos (e.symm.trans h)]
      · rw [valV_neg (p := (p.1, y)) e, valV_neg e, ih]
    · rw [if_neg h]
      by_cases e : p.1 = j
      · rw [valV_pos (p := p) e, valV_pos e, Option.map_some, if_neg (fun z => h (e.trans z))]
      · rw [valV_neg (p := p) e, valV_neg e, ih]
theorem valV_snoc (k j : κ) (y : V) : ∀ kvs : List (κ × V), valV kvs k = none → valV (kvs ++ [(k, y)]) j = if j = k then some y else valV kvs j
  | [], _ => by
    by_cases e : k = j
    · rw [if_pos e.symm]; exact valV_pos (p := (k, y)) e
    · rw [if_neg (fun z => e z.symm)]; exact valV_neg (p := (k, y)) e
  | p :: r, hn => by
    rw [List.cons_append]
    have hk : ¬ p.1 = k := fun z => by rw [valV_pos z] at hn; cases hn
    rw [valV_neg hk] at hn
    have ih := valV_snoc k j y r hn
    by_cases e : p.1 = j
    · rw [valV_pos e, valV_pos e, if_neg (fun z => hk (e.trans z))]
    · rw [valV_neg e, valV_neg e, ih]
theorem valV_put (kvs : List (κ × V)) (k j : κ) (y : V) : valV (putK kvs k y) j = if j = k then some y else valV kvs j := by
  unfold putK
  by_cases a : (kvs.any fun kv => decide (kv.1 = k)) = true
  · rw [if_pos a, valV_map]
    rw [valV_any] at a
    by_cases e : j = k
    · obtain ⟨x, hx⟩ := Option.isSome_iff_exists.mp a
      rw [if_pos e, e, hx, Option.map_some, if_pos rfl]
    · rw [if_neg e]
      cases valV kvs j with
      | none => rfl
      | some x => rw [Option.map_some, if_neg e]
  · rw [if_neg a]
    refine valV_snoc k j y kvs ?_
    rw [valV_any] at a
    cases q : valV kvs k with
    | none => rfl
    | some x => rw [q] at a; exact (a rfl).elim
theorem length_putK (kvs : List (κ × V)) (k : κ) (v : V) : (putK kvs k v).length ≤ kvs.length + 1 := by
  unfold putK
  split
  · rw [List.length_map]; omega
  · rw [List.length_append, List.length_cons, List.length_nil]; omega
theorem RelO.isSome_eq {o : Option V} {u : Option Value} (r : RelO o u) : o.isSome = u.isSome := by
  cases o with
  | none => cases u with
    | none => rfl
    | some _ => exact (show False from r).elim
  | some _ => cases u with
    | none => exact (show False from r).elim
    | some _ => rfl
theorem RelO.getD {o : Option V} {u : Option Value} {d : V} {d' : Value} (r : RelO o u) (rd : RelV d d') : RelV (o.getD d) (u.getD d') := by
  cases o with
  | none => cases u with
    | none => exact rd
    | some _ => exact (show False from r).elim
  | some _ => cases u with
    | none => exact (show False from r).elim
    | some _ => exact r
/-- raw tables of the same keys -/
theorem KV.val {kvs : List (κ × V)} {vs : List (κ × Value)} (r : KV kvs vs) (k : κ) : RelO (valV kvs k) (valueAt vs k) := by
  unfold KV at r
  induction r with
  | nil => exact True.intro
  | @cons p q ps qs h t ih =>
    obtain ⟨h1, h2⟩ := h
    by_cases e : p.1 = k
    · have e' : q.1 = k := h1.symm.trans e
      have b : valueAt (q :: qs) k = some q.2 := by simp [valueAt, List.find?_cons, e']
      rw [valV_pos e, b]; exact h2
    · have e' : ¬ q.1 = k := fun z => e (h1.trans z)
      have b : valueAt (q :: qs) k = valueAt qs k := by simp [valueAt, List.find?_cons, e']
      rw [valV_neg e, b]; exact ih
theorem KV.any {kvs : List (κ × V)} {vs : List (κ × Value)} (r : KV kvs vs) (k : κ) : (kvs.any fun kv => decide (kv.1 = k)) = vs.any fun kv => decide (kv.1 = k) := by
  unfold KV at r
  induction r with
  | nil => rfl
  | cons h t ih => rw [List.any_cons, List.any_cons, ih, h.1]
theorem KV.repl {kvs : List (κ × V)} {vs : List (κ × Value)} (r : KV kvs vs) (k : κ) {y : V} {u : Value} (ry : RelV y u) :
    KV (kvs.map fun kv => if kv.1 = k then (kv.1, y) else kv) (vs.map fun kv => if kv.1 = k then (kv.1, u) else kv) := by
  unfold KV at r ⊢
  induction r with
  | nil => exact .nil
  | @cons p q ps qs h t ih =>
    rw [List.map_cons, List.map_cons]
    refine .cons ?_ ih
    obtain ⟨h1, h2⟩ := h
    by_cases e : p.1 = k
    · rw [if_pos e, if_pos (h1.symm.trans e)]; exact ⟨h1, ry⟩
    · rw [if_neg e, if_neg (fun z => e (h1.trans z))]; exact ⟨h1, h2⟩
theorem KV.put {kvs : List (κ × V)} {vs : List (κ × Value)} (r : KV kvs vs) (k : κ) {y : V} {u : Value} (ry : RelV y u) : KV (putK kvs k y) (stored vs k u) := by
  unfold putK stored
  rw [r.any k]
  by_cases e : (vs.any fun kv => decide (kv.1 = k)) = true
  · rw [if_pos e, if_pos e]; exact r.repl k ry
  · rw [if_neg e, if_neg e]; exact Paired.snoc r ⟨rfl, ry⟩
theorem KV.length {kvs : List (κ × V)} {vs : List (κ × Value)} (r : KV kvs vs) : kvs.length = vs.length := Paired.length r
end
theorem kV_is {P : Program} {w : World} {k : Key} {u : Value} (r : RelV (kV k) u) : (mixKind P w).is k u = true := by
  cases k with
  | inl i => obtain ⟨t, e⟩ := (show ∃ t, u = Value.int i t from r); subst e; exact mixKind_int P w i t
  | inr x => obtain ⟨t, e⟩ := (show ∃ t, u = Value.str x t from r); subst e; exact mixKind_str P w x t
theorem items_are {P : Program} {w : World} : ∀ {ks : List Key} {us : List Value}, Vals (ks.map kV) us → ItemsAre (mixKind P w) ks us
  | [], _, r => by rw [List.map_nil] at r; cases r; exact .nil
  | k :: ks, _, r => by
    rw [List.map_cons] at r
    cases r with
    | cons h t => exact .cons (kV_is h) (items_are t)
/-- raw entries of a dict with tuple keys -/
abbrev KT (H : Hp) : List (List Key × V) → List (List Key × Addr × Value) → Prop := Paired fun p q => p.1 = q.1 ∧ H q.2.1 = some (.tup (p.1.map kV)) ∧ RelV p.2 q.2.2
theorem KT.val {H : Hp} {kvs : List (List Key × V)} {xs : List (List Key × Addr × Value)} (r : KT H kvs xs) (k : List Key) : RelO (valV kvs k) ((atKey xs k).map (·.2)) := by
  induction r with
  | nil => exact True.intro
  | @cons p q ps qs h t ih =>
    obtain ⟨h1, _, h2⟩ := h
    by_cases e : p.1 = k
    · have e' : q.1 = k := h1.symm.trans e
      have b : atKey (q :: qs) k = some q.2 := by simp [atKey, List.find?_cons, e']
      rw [valV_pos e, b]; exact h2
    · have e' : ¬ q.1 = k := fun z => e (h1.trans z)
      have b : atKey (q :: qs) k = atKey qs k := by simp [atKey, List.find?_cons, e']
      rw [valV_neg e, b]; exact ih
theorem KT.repl {H : Hp} {kvs : List (List Key × V)} {xs : List (List Key × Addr × Value)} (r : KT H kvs xs) (k : List Key) {y : V} {u : Value} (ry : RelV y u) :
    KT H (kvs.map fun kv => if kv.1 = k then (kv.1, y) else kv) (xs.map (putAt k u)) := by
  induction r with
  | nil => exact .nil
  | @cons p q ps qs h t ih =>
    rw [List.map_cons, List.map_cons]
    refine .cons ?_ ih
    obtain ⟨h1, h2, h3⟩ := h
    unfold putAt
    by_cases e : p.1 = k
    · rw [if_pos e, if_pos (h1.symm.trans e)]; exact ⟨h1, h2, ry⟩
    · rw [if_neg e, if_neg (fun z => e (h1.trans z))]; exact ⟨h1, h2, h3⟩
theorem KT.put {H : Hp} {kvs : List (List Key × V)} {xs : List (List Key × Addr × Value)} (r : KT H kvs xs) (k : List Key) {b : Addr} {y : V} {u : Value} (hb : H b = some (.tup (k.map kV))) (ry : RelV y u) :
    KT H (putK kvs k y) (storedH xs k b u) := by
  have e : (kvs.any fun kv => decide (kv.1 = k)) = (atKey xs k).isSome := by
    rw [valV_any, (r.val k).isSome_eq, Option.isSome_map]
  unfold putK storedH
  rw [e]
  by_cases q : (atKey xs k).isSome = true
  · rw [if_pos q, if_pos q]; exact r.repl k ry
  · rw [if_neg q, if_neg q]; exact Paired.snoc r ⟨rfl, hb, ry⟩
theorem KT.keeps {H H' : Hp} {kvs : List (List Key × V)} {xs : List (List Key × Addr × Value)} (r : KT H kvs xs) (ht : ∀ b ys, H b = some (.tup ys) → H' b = some (.tup ys)) : KT H' kvs xs :=
  Paired.mapP r fun _ _ z => ⟨z.1, ht _ _ z.2.1, z.2.2⟩
section
variable {P : Program} {w : World} {H : Hp} {h : Heap} {a : Addr}
theorem rd_of {u : HO} (ok : HOk P w H h) (e : Rd H a u) : ObjOk P w H h a u := e.ok ok
theorem dk_rd {kvs : List (Key × V)} (ok : HOk P w H h) (e : Rd H a (.dK kvs)) : kvs.length ≤ sizeLine ∧ (a == sysModules) = false ∧ ∃ vs, KV kvs vs ∧ h.DictOf (mixKind P w) a vs :=
  show ObjOk P w H h a (.dK kvs) from rd_of ok e
theorem dk_of {kvs : List (Key × V)} (ok : HOk P w H h) (e : H a = some (.dK kvs)) : kvs.length ≤ sizeLine ∧ (a == sysModules) = false ∧ ∃ vs, KV kvs vs ∧ h.DictOf (mixKind P w) a vs := dk_rd ok (.inl e)
/-- a tracked tuple of ints and texts is a key -/
theorem key_of {ks : List Key} (ok : HOk P w H h) (e : H a = some (.tup (ks.map kV))) : (tupleKind (mixKind P w)).is h ks a := by
  obtain ⟨_, its, r, o, h1, h2, n, h3⟩ := (show ObjOk P w H h a (.tup (ks.map kV)) from ok a _ e)
  exact ⟨o, its.toArray, n, h1, h2, h3, by simpa using items_are r⟩
theorem dt_rd {kvs : List (List Key × V)} (ok : HOk P w H h) (e : Rd H a (.dT kvs)) : kvs.length ≤ sizeLine ∧ (a == sysModules) = false ∧
    ∃ xs, KT H kvs xs ∧ h.DictOfH (tupleKind (mixKind P w)) a xs := by
  obtain ⟨z, y, xs, r, o, es, ep, h1, h2, h3, h4, h5⟩ := (show ObjOk P w H h a (.dT kvs) from rd_of ok e)
  refine ⟨z, y, xs, r, o, es, ep, h1, h2, h3, h4, fun x hx => ?_, h5⟩
  have all : ∀ {l : List (List Key × V)} {m : List (List Key × Addr × Value)}, KT H l m → ∀ x ∈ m, (tupleKind (mixKind P w)).is h x.1 x.2.1 := by
    intro l m q
    induction q with
    | nil => intro x hx; exact nomatch hx
    | @cons p q ps qs hq t ih =>
      intro x hx
      rcases List.mem_cons.mp hx with e | hx
      · subst e
        exact key_of ok (by rw [← hq.1]; exact hq.2.1)
      · exact ih x hx
  exact all r x hx
theorem dt_of {kvs : List (List Key × V)} (ok : HOk P w H h) (e : H a = some (.dT kvs)) : kvs.length ≤ sizeLine ∧ (a == sysModules) = false ∧
    ∃ xs, KT H kvs xs ∧ h.DictOfH (tupleKind (mixKind P w)) a xs := dt_rd ok (.inl e)
end
/-- what the dict at a holds at the key y -/
def DGet (H : Hp) (a : Addr) (y : V) (r : Option V) : Prop :=
  (∃ kvs k, Rd H a (.dK kvs) ∧ y = kV k ∧ r = valV kvs k) ∨ ∃ kvs k b, Rd H a (.dT kvs) ∧ y = .ref b ∧ H b = some (.tup (k.map kV)) ∧ r = valV kvs k
/-- the heap behind a[y] = v -/
def DPut (H : Hp) (a : Addr) (y v : V) (H' : Hp) : Prop :=
  (∃ kvs k, H a = some (.dK kvs) ∧ y = kV k ∧ kvs.length < sizeLine ∧ H' = upd H a (.dK (putK kvs k v))) ∨
  ∃ kvs k b, H a = some (.dT kvs) ∧ y = .ref b ∧ H b = some (.tup (k.map kV)) ∧ kvs.length < sizeLine ∧ H' = upd H a (.dT (putK kvs k v))
theorem DGet.k {H : Hp} {a : Addr} {kvs : List (Key × V)} {k : Key} (e : H a = some (.dK kvs)) : DGet H a (kV k) (valV kvs k) := .inl ⟨kvs, k, .inl e, rfl, rfl⟩
theorem DPut.k {H : Hp} {a : Addr} {kvs : List (Key × V)} {k : Key} {v : V} (e : H a = some (.dK kvs)) (hl : kvs.length < sizeLine) : DPut H a (kV k) v (upd H a (.dK (putK kvs k v))) := .inl ⟨kvs, k, e, rfl, hl, rfl⟩
section
variable {X : Cx} {pins : List (Addr × Obj)} {σ : St} {H : Hp} {s : Shared} {a : Addr} {y v : V} {u r : Value} {o : Option V} {A : Around} {E : Value → Shared → Prop}
theorem Inv.big (I : Inv X pins σ H s) : sysModules < s.heap.objs.size := by
  have h : mainGlobals < s.heap.objs.size := (I.mod.glob.keeps I.bk).lt
  exact Nat.lt_trans (by decide) h
/-- d[y], there -/
theorem d_getItem {Q : Value → Shared → Prop} (hu : A.units + 1 < cLine) (I : Inv X pins σ H s) (g : DGet H a y (some v)) (ry : RelV y u) (h : ∀ w' s', Inv X pins σ H s' → RelV v w' → Q w' s') :
    wpAny (model X.prog X.w) A (getItem (.ref a) u) Q E s := by
  rcases g with ⟨kvs, k, e, ey, l⟩ | ⟨kvs, k, b, e, ey, eb, l⟩
  · subst ey
    obtain ⟨z, hd, vs, rel, dd⟩ := dk_rd I.hok e
    obtain ⟨w', hw, rw'⟩ := RelO.some_of (v := v) (o := valueAt vs k) (by rw [l]; exact rel.val k)
    exact wpAny_getItem_of (kV_is ry) dd.mapOf hw (h w' _ (I.tok _) rw')
  · subst ey
    cases (show u = Value.ref b from ry)
    obtain ⟨z, hd, xs, rel, dd⟩ := dt_rd I.hok e
    obtain ⟨w', hw, rw'⟩ := RelO.some_of (v := v) (o := (atKey xs k).map (·.2)) (by rw [l]; exact rel.val k)
    obtain ⟨p, hp, hp2⟩ := Option.map_eq_some_iff.mp hw
    refine wpAny_getItem_heap (tupleKind_room_in1 hu) (key_of I.hok eb) dd hp ?_
    rw [hp2]
    exact h w' _ (I.tok _) rw'
theorem d_notIn {Q : Value → Shared → Prop} (hu : A.units + 1 < cLine) (I : Inv X pins σ H s) (g : DGet H a y o) (ry : RelV y u) (h : ∀ s', Inv X pins σ H s' → Q (.bool (!o.isSome)) s') :
    wpAny (model X.prog X.w) A (compareOp .NotIn u (.ref a)) Q E s := by
  rcases g with ⟨kvs, k, e, ey, l⟩ | ⟨kvs, k, b, e, ey, eb, l⟩
  · subst ey
    obtain ⟨z, hd, vs, rel, dd⟩ := dk_rd I.hok e
    refine wpAny_notIn_of (kV_is ry) hd dd.mapOf ?_
    rw [← (rel.val k).isSome_eq, ← l]
    exact h _ (I.tok _)
  · subst ey
    cases (show u = Value.ref b from ry)
    obtain ⟨z, hd, xs, rel, dd⟩ := dt_rd I.hok e
    refine wpAny_notIn_heap (tupleKind_room_in1 hu) (key_of I.hok eb) hd dd ?_
    have q := (rel.val k).isSome_eq
    rw [Option.isSome_map] at q
    rw [← q, ← l]
    exact h _ (I.tok _)
/-- a dict's object is replaced -/
theorem d_write {h' : Heap} {t' : Nat} {ob : HO} (I : Inv X pins σ H s) (mu : Mut (H a)) (hs : Heap.SameBut a s.heap h') (he : ∃ q, h'.get? a = some q) (new : ObjOk X.prog X.w (upd H a ob) h' a ob) :
    Inv X pins σ (upd H a ob) { s with heap := h', toks := t' } :=
  I.write (x := a) (e := a) mu (.inl rfl) (fun b q hb z => (hs.2 b hb).trans z) he new
theorem dk_new {P : Program} {w : World} {H' : Hp} {h' : Heap} {kvs : List (Key × V)} {vs : List (Key × Value)} (z : kvs.length ≤ sizeLine) (hd : (a == sysModules) = false) (rel : KV kvs vs) (dd : h'.DictOf (mixKind P w) a vs) :
    ObjOk P w H' h' a (.dK kvs) := ⟨z, hd, vs, rel, dd⟩
/-- d[y] = v -/
theorem d_setItem {H' : Hp} {Q : Unit → Shared → Prop} (hu : A.units + 1 < cLine) (I : Inv X pins σ H s) (g : DPut H a y v H') (ry : RelV y u) (rv : RelV v r) (h : ∀ s', Inv X pins σ H' s' → Q () s') :
    wpAny (model X.prog X.w) A (setItem (.ref a) u r) Q E s := by
  rcases g with ⟨kvs, k, e, ey, l, eH⟩ | ⟨kvs, k, b, e, ey, eb, l, eH⟩
  · subst ey eH
    obtain ⟨z, hd, vs, rel, dd⟩ := dk_of I.hok e
    have hz : vs.length ≤ sizeLine := by rw [← rel.length]; exact z
    have hl : (putK kvs k v).length ≤ sizeLine := by have := length_putK kvs k v; omega
    refine wpAny_setItem_pairs (hsz := hz) (kV_is ry) dd fun h' dd' hs => h _ ?_
    have he : ∃ q, h'.get? a = some q := let ⟨q, _, _, hq, _⟩ := dd'; ⟨q, hq⟩
    exact d_write I (by rw [e]; exact True.intro) hs he (dk_new hl hd (rel.put k rv) dd')
  · subst ey eH
    cases (show u = Value.ref b from ry)
    obtain ⟨z, hd, xs, rel, dd⟩ := dt_of I.hok e
    have hz : xs.length ≤ sizeLine := by rw [← Paired.length rel]; exact z
    have hl : (putK kvs k v).length ≤ sizeLine := by have := length_putK kvs k v; omega
    refine wpAny_setItem_heap (hsz := hz) (tupleKind_room_in1 hu) (key_of I.hok eb) dd fun h' dd' hs => h _ ?_
    obtain ⟨q, es, ep, hq, h2, h3, h4, _, h5⟩ := dd'
    refine d_write I (by rw [e]; exact True.intro) hs ⟨q, hq⟩ ⟨hl, hd, _, (rel.put k eb rv).keeps fun c ys ec => ?_, q, es, ep, hq, h2, h3, h4, h5⟩
    rw [upd_ne (ne_of ec e (fun z => nomatch z))]
    exact ec
end
section
variable {X : Cx} {pins : List (Addr × Obj)} {σ : St} {H : Hp} {s : Shared} {a : Addr} {kvs : List (Key × V)} {k : Key} {u : Value} {A : Around} {E : Value → Shared → Prop}
end
/-- the element of a subscription, not a slice -/
def NoSl (i : Expr) : Prop := ∀ ov iv, subscripted i false ov iv = operate [ov, iv] (getItem ov iv)
theorem subD_of {prog : Program} {w : World} {A : Around} {E : Value → Shared → Prop} {s : Shared} {env : Env} {value slice : Expr} {pos : Pos} {T id : String} {Q : Value → Shared → Prop}
    (hl : typeLookup (.type T) "__getitem__" = pure (some (.builtin id))) (hs : NoSl slice)
    (h : wpAny (model prog w) A (eval value env) (fun o s₁ => wpAny (model prog w) A (eval slice env) (fun i s₂ => s₂.TypeIs o T ∧ wpAny (model prog w) A (getItem o i) Q E s₂) E s₁) E s) :
    wpAny (model prog w) A (eval (.Subscript value slice pos) env) Q E s := by
  refine Subscript_ (wpAny_mono h (fun o s₁ h₁ => wpAny_mono h₁ (fun i s₂ h₂ => ?_) fun _ _ x => x) fun _ _ x => x)
  obtain ⟨hT, h₂⟩ := h₂
  unfold subscriptTail
  refine wpAny_bind ?_
  rw [getitemInPython_of_ne hT.not_modules]
  refine wpAny_bind (wpAny_specialOf hT hl ?_)
  have fin : wpAny (model prog w) A (subscripted slice false o i) (fun r s₃ => wpAny (model prog w) A (letTemporaryGo value o r >>= fun _ => pure r) Q E s₃) E s₂ := by
    rw [hs o i]
    exact wpAny_operating (wpAny_mono h₂ (fun r s₃ h₃ => wpAny_bind (wpAny_letTemporaryGo (wpAny_pure h₃))) fun _ _ x => x)
  first
    | exact wpAny_pure (wpAny_bind fin)
    | exact wpAny_bind (wpAny_pure (wpAny_bind fin))
    | exact wpAny_bind fin
theorem dict_typeIs {X : Cx} {pins : List (Addr × Obj)} {σ : St} {H : Hp} {s : Shared} {a : Addr} {y : V} {o : Option V} (I : Inv X pins σ H s) (g : DGet H a y o) : s.TypeIs (.ref a) "dict" := by
  rcases g with ⟨kvs, k, e, _, _⟩ | ⟨kvs, k, b, e, _, _, _⟩
  · obtain ⟨_, _, vs, _, dd⟩ := dk_rd I.hok e
    exact dd.typeIs
  · obtain ⟨_, _, xs, _, dd⟩ := dt_rd I.hok e
    exact dd.typeIs
/-- d[y] -/
def tDGet (td ty : TE) : TE := fun σ H Q => td σ H fun x H1 => ty σ H1 fun y H2 => ∃ a v, x = .ref a ∧ DGet H2 a y (some v) ∧ Q v H2
def tDNotIn (ty td : TE) : TE := fun σ H Q => ty σ H fun y H1 => td σ H1 fun x H2 => ∃ a o, x = .ref a ∧ DGet H2 a y o ∧ Q (.bl (!o.isSome)) H2
/-- d[y] = v -/
def sDPut (td ty tv : TE) : TS := fun D σ H => tv σ H fun v H1 => td σ H1 fun x H2 => ty σ H2 fun y H3 => ∃ a H4, x = .ref a ∧ DPut H3 a y v H4 ∧ D.nx σ H4
section
variable {X : Cx} {o i e value : Expr} {pos pos' tpos : Pos} {td ty tv : TE}
theorem pe_dget (hu : X.A.units + 1 < cLine) (ho : PE X o td) (hi : PE X i ty) (hs : NoSl i) : PE X (.Subscript o i pos) (tDGet td ty) := by
  intro pins s σ H Q I h
  refine subD_of PySem.F.slot_dict_getitem.lookup hs (thn (ho pins s σ H _ I h) fun u s1 ⟨x, H1, I1, rx, q1⟩ => thn (hi pins s1 σ H1 _ I1 q1) fun iv s2 ⟨y, H2, I2, ry, a, v, ex, g, q2⟩ => ?_)
  subst ex
  obtain rfl : u = Value.ref a := rx
  exact ⟨dict_typeIs I2 g, d_getItem hu I2 g ry fun w' s3 I3 rw' => ⟨v, H2, I3, rw', q2⟩⟩
theorem pc_dnotin (hu : X.A.units + 1 < cLine) (hi : PE X i ty) (ho : PE X o td) : PC X .NotIn i o (tDNotIn ty td) := by
  intro pins s σ H Q I h
  refine thn (hi pins s σ H _ I h) fun iv s1 ⟨y, H1, I1, ry, q1⟩ => thn (ho pins s1 σ H1 _ I1 q1) fun u s2 ⟨x, H2, I2, rx, a, ov, ex, g, q2⟩ => ?_
  subst ex
  obtain rfl : u = Value.ref a := rx
  exact d_notIn hu I2 g ry fun s3 I3 => ⟨.bl (!ov.isSome), H2, I3, rfl, q2⟩
theorem ps_dput (hu : X.A.units + 1 < cLine) (ho : PE X o td) (hi : PE X i ty) (hv : PE X value tv) (hs : swapsWith value (some (.Subscript o i pos')) pos.line X.env = pure false) :
    PS X (.Assign [.Subscript o i pos'] value pos) (sDPut td ty tv) := by
  intro pins s σ H D I h
  refine wpAny_Assign_Subscript (thn (hv pins s σ H _ I h) fun r s1 ⟨v, H1, I1, rv, q1⟩ => thn (ho pins s1 σ H1 _ I1 q1) fun u s2 ⟨x, H2, I2, rx, q2⟩ => thn (hi pins s2 σ H2 _ I2 q2) fun iv s3 ⟨y, H3, I3, ry, a, H4, ex, g, q3⟩ => ?_) hs
  subst ex
  obtain rfl : u = Value.ref a := rx
  exact d_setItem hu I3 g ry rv fun s4 I4 => ⟨σ, H4, I4, q3⟩
end
theorem dk_empty {P : Program} {w : World} {H : Hp} (h : Heap) (hb : sysModules < h.objs.size) : ObjOk P w H (h.push { cls := .type "dict", data := .dict #[] }) h.objs.size (.dK []) :=
  ⟨Nat.zero_le _, beq_eq_false_iff_ne.mpr (Ne.symm (Nat.ne_of_lt hb)), [], .nil, Heap.DictOf.new h⟩
/-- {}, to be a dict of the kind that is wanted -/
def tDNewK : TE := fun _ H Q => ∀ p, H p = none → Q (.ref p) (upd H p (.dK []))
section
variable {X : Cx} {pos : Pos}
theorem pe_dnewK : PE X (.Dict [] [] pos) tDNewK := fun pins s σ H Q I h =>
  wpAny_Dict_empty ⟨.ref s.heap.objs.size, _, I.laid (a := s.heap.objs.size) (o := .dK []) (t' := s.toks) (fun _ _ q => Heap.get?_push_of_some _ q) (Nat.le_refl _) (dk_empty s.heap I.big), rfl, h _ (I.hok.fresh (Nat.le_refl _))⟩
end
structure M2 (X : Cx) (o : Expr) (m : Str) (apos : Pos) (e f : Expr) (cpos : Pos) : Prop where
  base : attributeBase o m X.env (eval o X.env) = eval o X.env
  few : ((backTo cpos (starEach [e, f] X.env)).all (fun x => !x.1) && (backToKw cpos (keywordEach [] X.env)).all (fun x => x.1.isSome)
    && decide (([e, f] : List Expr).length + ([] : List Keyword).length + (if ([] : List Keyword).isEmpty then 0 else 1) < 30)) = true
  line : (apos.endLine == cpos.line) = true
  trees : backTo cpos (starEach [e, f] X.env) = [(false, eval e X.env), (false, eval f X.env)]
/-- a is a dict, whatever its keys -/
def IsD (H : Hp) (a : Addr) : Prop := (∃ kvs, Rd H a (.dK kvs)) ∨ ∃ kvs, Rd H a (.dT kvs)
theorem isD_at {X : Cx} {pins : List (Addr × Obj)} {σ : St} {H : Hp} {s : Shared} {a : Addr} (I : Inv X pins σ H s) (d : IsD H a) :
    s.TypeIs (.ref a) "dict" ∧ (∀ b, Value.ref a = .ref b → ∃ ob, s.heap.get? b = some ob ∧ ob.dict = none) ∧ (a == sysModules) = false := by
  rcases d with ⟨kvs, e⟩ | ⟨kvs, e⟩
  · obtain ⟨_, hd, vs, _, dd⟩ := dk_rd I.hok e
    refine ⟨dd.typeIs, fun b q => ?_, hd⟩
    cases q
    obtain ⟨ob, _, _, h1, h2, _⟩ := dd
    exact ⟨ob, h1, h2.2.1⟩
  · obtain ⟨_, hd, xs, _, dd⟩ := dt_rd I.hok e
    refine ⟨dd.typeIs, fun b q => ?_, hd⟩
    cases q
    obtain ⟨ob, _, _, h1, h2, _⟩ := dd
    exact ⟨ob, h1, h2.2.1⟩
section
variable {X : Cx} {pins : List (Addr × Obj)} {σ : St} {H : Hp} {s : Shared} {a : Addr} {y d : V} {u r : Value} {o : Option V} {A : Around} {E : Value → Shared → Prop}
/-- d.get(y, x) -/
theorem d_get2 {Q : Value → Shared → Prop} (hu : A.units + 1 < cLine) (I : Inv X pins σ H s) (g : DGet H a y o) (ry : RelV y u) (rd : RelV d r) (h : ∀ w' s', Inv X pins σ H s' → RelV (o.getD d) w' → Q w' s') :
    wpAny (model X.prog X.w) A (call (.builtin "dict.get") [.ref a, u, r]) Q E s := by
  rcases g with ⟨kvs, k, e, ey, l⟩ | ⟨kvs, k, b, e, ey, eb, l⟩
  · subst ey
    obtain ⟨z, hd, vs, rel, dd⟩ := dk_rd I.hok e
    refine call_meetsIn PySem.F.slot_dict_get dd.typeIs PySem.F.entry_dict_get (PySem.F.args_dict_get_3 _ _ _) (meets_dict_get_default (mixKind X.prog X.w) a (kV_is ry) hd r) ⟨_, dd.mapOf, h _ _ (I.tok _) ?_⟩
    rw [l]
    exact (rel.val k).getD rd
  · subst ey
    cases (show u = Value.ref b from ry)
    obtain ⟨z, hd, xs, rel, dd⟩ := dt_rd I.hok e
    refine call_meetsIn PySem.F.slot_dict_get dd.typeIs PySem.F.entry_dict_get (PySem.F.args_dict_get_3 _ _ _) (meetsH_dict_get_default (tupleKind (mixKind X.prog X.w)) a b hd r) ⟨tupleKind_room_in1 hu, k, xs, key_of I.hok eb, dd, h _ _ (I.tok _) ?_⟩
    rw [l]
    exact (rel.val k).getD rd
end
def tDGet2 (td ty tx : TE) : TE := fun σ H Q => td σ H fun x H1 => ∃ a, x = .ref a ∧ IsD H1 a ∧ ty σ H1 fun y H2 => tx σ H2 fun z H3 => ∃ o, DGet H3 a y o ∧ Q (o.getD z) H3
section
variable {X : Cx} {o e f : Expr} {apos cpos : Pos} {td ty tx : TE}
theorem pe_dget2 (hu : X.A.units + 1 < cLine) (ho : PE X o td) (he : PE X e ty) (hf : PE X f tx) (m : M2 X o "get" apos e f cpos) : PE X (.Call (.Attribute o "get" apos) [e, f] [] cpos) (tDGet2 td ty tx) := by
  intro pins s σ H Q I h
  refine wpAny_Call_method m.base m.few m.line PySem.F.plainAttrs_dict PySem.F.slot_dict_get PySem.F.type_dict_get (thn (ho pins s σ H _ I h) fun u s1 ⟨x, H1, I1, rx, a, ex, d, q1⟩ => ?_)
  subst ex
  obtain rfl : u = Value.ref a := rx
  obtain ⟨t1, t2, _⟩ := isD_at I1 d
  refine ⟨t1, t2, ?_⟩
  rw [m.trees]
  refine Calls.callWith_builtin rfl (Calls.evalArgs_plain (Calls.spliced_cons (thn (he pins s1 σ H1 _ I1 q1) fun iv s2 ⟨y, H2, I2, ry, q2⟩ =>
    Calls.spliced_cons (thn (hf pins s2 σ H2 _ I2 q2) fun fv s3 ⟨z, H3, I3, rz, ov, g, q3⟩ => Calls.spliced_nil ?_))))
  exact d_get2 hu I3 g ry rz fun w' s4 I4 rw' => ⟨_, H3, I4, rw', q3⟩
end
section
variable {X : Cx} {pins : List (Addr × Obj)} {σ : St} {H : Hp} {s : Shared} {a : Addr} {kvs : List (Key × V)} {A : Around} {E : Value → Shared → Prop}
end
section
variable {X : Cx} {pins : List (Addr × Obj)} {σ : St} {H : Hp} {s : Shared} {a : Addr} {y : V} {u : Value} {A : Around} {E : Value → Shared → Prop}
end
end L2
namespace L2
open PySem PySem.Spec PyProof.Rows
section
variable {prog : Program} {w : World} {A : Around} {E : Value → Shared → Prop}
end
section
variable {X : Cx}
end
end L2
namespace L2
open PySem PySem.Spec PyProof.Rows
section
variable {X : Cx} {pins : List (Addr × Obj)} {σ : St} {H : Hp} {s : Shared} {h' : Heap}
/-- .. and one new object is laid -/
theorem Inv.turnedNew {t' : Nat} {ch : List Addr} {T : Addr} {ob : HO} (I : Inv X pins σ H s) (k : ∀ b o, b ∉ ch → s.heap.get? b = some o → h'.get? b = some o) (hf : ∀ b ∈ ch, FpOk X pins H b) (hT : s.heap.objs.size ≤ T)
    (new : ObjOk X.prog X.w (upd H T ob) h' T ob) : Inv X pins σ (upd H T ob) { s with heap := h', toks := t' } := by
  have hn : H T = none := I.hok.fresh hT
  have nit : ∀ b u, H b = some u → b ∉ ch := fun b u e z => by
    have q := (hf b z).1
    rw [q] at e; cases e
  refine I.step (g' := s.gens) (d' := s.drawn) (ch := ch) (fun b hb => ⟨(hf b hb).2.2.2.1, (hf b hb).2.1, (hf b hb).2.2.2.2.1, (hf b hb).2.2.2.2.2⟩) (fun b o _ _ hc e _ => k b o hc e) (fun b o _ _ hc e _ => ⟨o.slots, k b o hc e⟩)
    (fun b o _ e n => ?_) (fun b o hc e => ⟨o, k b o hc e⟩) (fun b xs e => ?_) (fun b o u e => ?_) (fun b ps e => ⟨#[], ?_⟩) (fun m hm => ?_) (fun b u e => ?_) I.bare
  · rw [upd_ne (Nat.ne_of_lt (Nat.lt_of_lt_of_le (Heap.lt_size e) hT))]; exact n
  · rw [upd_ne (ne_of_none e hn)]; exact e
  · rw [upd_ne (ne_of_none e hn)]; exact e
  · rw [upd_ne (ne_of_none e hn), e]; simp
  · obtain ⟨o, es, ep, ho, r⟩ := hm
    exact ⟨o, es, ep, k _ o (fun z => (hf _ z).2.1 rfl) ho, r⟩
  · by_cases hb : b = T
    · subst hb
      rw [upd_same] at e
      cases e
      exact new
    · rw [upd_ne hb] at e
      refine (I.hok b u e).stay (fun c v hc q => k c v ?_ q) (fun c q => by rw [upd_ne (ne_of_none q hn)]; exact q) fun c xs q => by rw [upd_ne (ne_of_none q hn)]; exact q
      rcases hc with z | z
      · rw [z]; exact nit b u e
      · exact nit c _ z
theorem Inv.lock {d : Addr} {u : HO} (I : Inv X pins σ H s) (h : H d = some u) (mu : Mut (some u)) : ∃ od, Inv X pins σ (upd H d (.frz od u)) s := by
  have x := I.hok d u h
  have ex : ∃ od, s.heap.get? d = some od := by
    cases u with
    | lst xs => obtain ⟨_, _, _, _, e⟩ := x; exact ⟨_, e⟩
    | dK kvs => obtain ⟨_, _, _, _, o, _, _, e, _⟩ := x; exact ⟨o, e⟩
    | dT kvs => obtain ⟨_, _, _, _, o, _, _, e, _⟩ := x; exact ⟨o, e⟩
    | set S n => obtain ⟨o, _, _, _, e, _⟩ := x; exact ⟨o, e⟩
    | ins C dx fs => obtain ⟨_, _, _, e, _⟩ := x; exact ⟨_, e⟩
    | ext φ => obtain ⟨_, ⟨_, e⟩, _⟩ := x; exact ⟨_, e⟩
    | _ => exact False.elim mu
  obtain ⟨od, e⟩ := ex
  have new : ObjOk X.prog X.w (upd H d (.frz od u)) s.heap d (.frz od u) := by
    refine ⟨e, x.stay (fun b v _ q => q) (fun b q => ?_) fun b xs q => ?_⟩
    · rw [upd_ne (fun z => by rw [z, h] at q; cases q; exact mu)]; exact q
    · rw [upd_ne (fun z => by rw [z, h] at q; cases q; exact mu)]; exact q
  exact ⟨od, I.write (x := d) (e := d) (t' := s.toks) (h' := s.heap) (by rw [h]; exact mu) (.inl rfl) (fun b v _ q => q) ⟨od, e⟩ new⟩
theorem Inv.nofrz {d : Addr} {u : HO} (I : Inv X pins σ H s) (h : H d = some u) (mu : Mut (some u)) : ∀ o' u', X.H_0 d ≠ some (.frz o' u') := fun o' u' e => by
  have q := I.base.frzs d o' u' e
  rw [h] at q
  cases q
  exact mu
theorem Inv.unlock {d : Addr} {od : Obj} {u : HO} (I : Inv X pins σ H s) (h : H d = some (.frz od u)) (hn : ∀ o' u', X.H_0 d ≠ some (.frz o' u')) : Inv X pins σ (upd H d u) s := by
  have neH : ∀ b o, H b = some o → (∀ o' u', o ≠ .frz o' u') → b ≠ d := fun b o e hne z => by
    rw [z, h] at e
    cases e
    exact hne _ _ rfl
  have neN : ∀ b, H b = none → b ≠ d := fun b e z => by rw [z, h] at e; cases e
  refine ⟨I.ok, I.os, I.bare, ⟨I.base.keep, I.base.slot, fun b o e n hx => ?_, I.base.there, fun b xs e => ?_, fun b o x e => ?_, fun b ps e => ?_⟩, I.loc, I.cell, ?_, fun x c e => ?_, fun p hp => ?_, fun b o e => ?_, I.len⟩
  · rw [upd_ne (neN b (I.base.free b o e n hx))]; exact I.base.free b o e n hx
  · have q := I.base.tups b xs e
    rw [upd_ne (neH b _ q (fun _ _ z => nomatch z))]; exact q
  · have q := I.base.frzs b o x e
    rw [upd_ne (fun z => by rw [z] at e; exact hn _ _ e)]; exact q
  · obtain ⟨m, q⟩ := I.base.tbls b ps e
    exact ⟨m, by rw [upd_ne (neH b _ q (fun _ _ z => nomatch z))]; exact q⟩
  · rw [upd_ne (neN _ I.free)]; exact I.free
  · rw [upd_ne (neN c (I.freeC x c e))]; exact I.freeC x c e
  · obtain ⟨e, n, r⟩ := I.pin p hp
    exact ⟨e, by rw [upd_ne (neN _ n)]; exact n, r⟩
  · by_cases hb : b = d
    · rw [hb, upd_same] at e
      cases e
      rw [hb]
      obtain ⟨_, x⟩ := I.hok d _ h
      exact x.stay (fun c v _ q => q) (fun c q => by rw [upd_ne (neH c _ q (fun _ _ z => nomatch z))]; exact q) fun c xs q => by rw [upd_ne (neH c _ q (fun _ _ z => nomatch z))]; exact q
    · rw [upd_ne hb] at e
      exact (I.hok b o e).stay (fun c v _ q => q) (fun c q => by rw [upd_ne (neH c _ q (fun _ _ z => nomatch z))]; exact q) fun c xs q => by rw [upd_ne (neH c _ q (fun _ _ z => nomatch z))]; exact q
end
def tLockE (t : TE) : TE := fun σ H Q => ∃ d u, H d = some u ∧ Mut (some u) ∧ ∀ od, t σ (upd H d (.frz od u)) fun v H' => H' d = some (.frz od u) ∧ Q v (upd H' d u)
section
variable {X : Cx}
theorem pe_lock {e : Expr} {t : TE} (h : PE X e t) : PE X e (tLockE t) := by
  intro pins s σ H Q I hw
  obtain ⟨d, u, hd, mu, hw⟩ := hw
  obtain ⟨od, I1⟩ := I.lock hd mu
  refine thn (h pins s σ _ _ I1 (hw od)) fun v s1 ⟨x, H1, I2, r, e2, q⟩ => ?_
  exact ⟨x, _, I2.unlock e2 (I.nofrz hd mu), r, q⟩
theorem pi_one {tg : Expr} {pins : List (Addr × Obj)} {σ : St} {H : Hp} {s : Shared} {R : It → Hp → Prop} {J : It} {tn : Nat → Heap → Prop} {tk : Nat} (I : Inv X pins σ H s) (o : Obj)
    (T : Turn X.prog X.w X.K tg J [s.heap.objs.size] s.heap.objs.size tn) (st : tn 0 (s.heap.push o)) (q : R J H) : PIE X pins σ tg R (.ref s.heap.objs.size) { s with heap := s.heap.push o, toks := tk } := by
  refine ⟨s.heap.objs.size, [s.heap.objs.size], tn, J, H, rfl, I.kept fun b ob e => Heap.get?_push_of_some _ e, T, st, fun b hb => ?_, q⟩
  have e : b = s.heap.objs.size := by simpa using hb
  subst e
  exact I.fpOk (Nat.le_refl _) (I.hok.fresh (Nat.le_refl _))
end
section
variable {X : Cx} {tg : Expr}
end
section
variable {X : Cx} {tg : Expr}
end
def Its (x : Str) : It := ⟨fun i _ => i < x.cps.size, fun i H v H' => H' = H ∧ ∃ c, x.cps[i]? = some c ∧ v = .str ⟨#[c]⟩, fun i _ => x.cps.size ≤ i⟩
theorem turn_str {P : Program} {w : World} {K : PySem.W.Frag} {tg : Expr} (it : Addr) (x : Str) (t : Tok) (ty : String) (hty : ty = "str_ascii_iterator" ∨ ty = "str_iterator") :
    Turn P w K tg (Its x) [it] it (fun i h => h.IsStrIter it ty x t i) where
  mem := by simp
  obj := fun i h st b hb => by
    have e : b = it := by simpa using hb
    subst e
    obtain ⟨o, e, c, d⟩ := st
    exact ⟨o, e, fun v z => by rw [d] at z; cases z⟩
  keep := fun i h h' st k => let ⟨o, ho, r⟩ := st; ⟨o, k it (by simp) o ho, r⟩
  item := by
    intro X hP hw hK hc i pins s σ H E I hf st hg
    subst hP hw hK
    obtain ⟨f0, f1, f2, f3, f4, f5⟩ := hf it (by simp)
    have W : Walks X.prog X.w X.A it [it] [it] x.cps.size (SignAt x) (fun i h => h.IsStrIter it ty x t i) := by
      rcases hty with e | e
      · rw [e]; exact Walks.strAscii (I.ok.hd hc) it x t
      · rw [e]; exact Walks.strWide (I.ok.hd hc) it x t
    have hno : ["enumerate", "zip", "dict_itemiterator", "dict_reverseitemiterator", "odict_iterator", "itertools.zip_longest", "itertools.pairwise"].contains ty = false := by
      rcases hty with e | e
      · rw [e]; decide
      · rw [e]; decide
    refine W.item i s _ _ hg st fun v h' tk hv st' kk => ?_
    obtain ⟨c, u, hcx, rfl⟩ := hv
    have I1 : Inv X pins σ H { s with heap := h', toks := tk } := I.turned (fun b o hb e => kk b o (by simpa using hb) e) f0 f1 f3 f4 f5
    obtain ⟨oi, e, cc, dd⟩ := id st'
    exact ⟨_, rfl, go_of (s := { s with heap := h', toks := tk }) e cc dd hno ⟨.str ⟨#[c]⟩, H, I1, ⟨u, rfl⟩, ⟨rfl, c, hcx, rfl⟩, st', fun b hb => (hf b hb).1⟩⟩
  done := by
    intro X hP hw hK hc i pins s σ H E I hf st hg
    subst hP hw hK
    obtain ⟨f0, f1, f2, f3, f4, f5⟩ := hf it (by simp)
    have hx : x.cps[i]? = none := Array.getElem?_eq_none hg
    rcases hty with e | e
    · rw [e] at st
      exact wpAny_pyNext_ascii_end (I.ok.hd hc) st hx fun h' eb => ⟨rfl, I.turned (t' := s.toks) (fun b o hb e => eb b o hb e) f0 f1 f3 f4 f5⟩
    · rw [e] at st
      exact wpAny_pyNext_wide_end (I.ok.hd hc) st hx fun h' eb => ⟨rfl, I.turned (t' := s.toks) (fun b o hb e => eb b o hb e) f0 f1 f3 f4 f5⟩
  self := fun A i s Q E st h => by
    rcases hty with e | e
    · rw [e] at st; exact wpAny_pyIter_striter_ascii st h
    · rw [e] at st; exact wpAny_pyIter_striter_wide st h
def iStr (te : TE) : TI := fun σ H R => te σ H fun v H1 => ∃ x, v = .str x ∧ R (Its x) H1
theorem pi_str {X : Cx} {tg e : Expr} {te : TE} (he : PE X e te) : PI X tg e (iStr te) := by
  intro pins s σ H R I h
  refine thn (he pins s σ H _ I h) fun v s1 ⟨y, H1, I1, r1, x, ex, q⟩ => ?_
  subst ex
  obtain ⟨t, rfl⟩ := r1
  cases ha : x.cps.all (· < 128)
  · exact wpAny_pyIter_wide ha (pi_one (tk := s1.toks) I1 _ (turn_str _ x t "str_iterator" (.inr rfl)) ⟨_, Heap.get?_push_size _ rfl, rfl, rfl⟩ q)
  · exact wpAny_pyIter_ascii ha (pi_one (tk := s1.toks) I1 _ (turn_str _ x t "str_ascii_iterator" (.inl rfl)) ⟨_, Heap.get?_push_size _ rfl, rfl, rfl⟩ q)
section
variable {prog : Program} {w : World} {A : Around} {E : Value → Shared → Prop} {s : Shared}
theorem iter_keys {d : Addr} {o : Obj} {es : Array DictEntry} {ep : Nat} {Q : Value → Shared → Prop} (hd : (d == sysModules) = false) (ho : s.heap.get? d = some o) (hc : o.ExactDict) (hdat : o.data = .dict es ep)
    (hQ : Q (.ref s.heap.objs.size) { s with heap := s.heap.push { cls := .type "dict_keyiterator", data := .fields #[.ref d, .int 0 0, .int es.size 0, .int ep 0] } }) :
    wpAny (model prog w) A (pyIter (.ref d)) Q E s := by
  have hT : s.TypeIs (.ref d) "dict" := ⟨o, ho, hc.1⟩
  refine wpAny_pyIter_slot hT F.slot_dict_iter (wpAny_call_entry F.slot_dict_iter hT F.entry_dict_iter ?_ (F.args_dict_iter_1 _))
  unfold Builtin.«dict.__iter__»
  refine wpAny_bind ?_
  unfold Builtin.Dict.dictSlotNone
  refine wpAny_bind (wpAny_notOrdered_dict hT ?_)
  show wpAny _ _ (pure (Value.ref d)) _ _ s
  refine wpAny_pure ?_
  show wpAny _ _ (Builtin.Dict.showsAll d >>= _) _ _ s
  unfold Builtin.Dict.showsAll
  rw [if_neg (by rw [hd]; exact Bool.false_ne_true)]
  refine wpAny_bind (wpAny_pure ?_)
  refine wpAny_bind (wpAny_dictEntries ho hdat ?_)
  refine wpAny_bind (wpAny_dictEpoch ho hdat ?_)
  refine wpAny_bind (wpAny_newObj_type (wpAny_pure ⟨_, rfl, "dict_keyiterator", _, ⟨_, Heap.get?_push_size _ rfl, rfl⟩, F.slot_dict_keyiterator_next.lookup, ?_⟩))
  simpa [rawInt] using hQ
theorem next_key_item {it d : Addr} {i n ep : Nat} {od : Obj} {es : Array DictEntry} {en : DictEntry} {Q : Option Value → Shared → Prop} (hit : s.heap.IsKeyIter it d i n ep) (hod : s.heap.get? d = some od) (hdd : od.data = .dict es ep)
    (hsz : es.size = n) (hx : es[i]? = some en) (hQ : ∀ h', h'.IsKeyIter it d (i + 1) n ep → Heap.SameBut it s.heap h' → Q (some en.key) { s with heap := h' }) : wpAny (model prog w) A (pyNext (.ref it)) Q E s := by
  obtain ⟨o, ho, hc, hd⟩ := id hit
  unfold pyNext
  refine wpAny_bind (wpAny_attempt (wpAny_callSpecial?_slot (name := Str.ofString "__next__") hit.typeIs F.slot_dict_keyiterator_next
    (wpAny_call_entry F.slot_dict_keyiterator_next hit.typeIs F.entry_dict_keyiterator_next ?_ (F.args_dict_keyiterator_next_1 _))))
  refine wpAny_bind (wpAny_pure ?_)
  refine wpAny_bind ?_
  refine wpAny_bind ?_
  first | refine wpAny_bind (wpAny_typeNameOfWhole_keyiter hit.typeIs (wpAny_pure ?_)) | refine wpAny_bind (wpAny_typeNameOf_keyiter hit.typeIs (wpAny_pure ?_))
  refine wpAny_bind (wpAny_fieldsOf ho hd ?_)
  have hown : Builtin.Dict_items.ownsTuple "dict_keyiterator" = false := by decide
  simp only [hown, Bool.false_eq_true, if_false]
  show wpAny _ _ (if (Value.ref d == Value.none) = true then _ else _) _ _ s
  rw [if_neg (show ¬ ((Value.ref d == Value.none) = true) from Bool.false_ne_true)]
  refine wpAny_bind (wpAny_pure ?_)
  refine wpAny_bind (wpAny_dictEntries hod hdd ?_)
  rw [if_neg (by rw [hsz]; simp)]
  refine wpAny_bind (wpAny_pure ?_)
  refine wpAny_bind (wpAny_dictEpoch hod hdd ?_)
  rw [if_neg (by simp)]
  refine wpAny_pure ?_
  obtain ⟨hlt', hen⟩ := Array.getElem?_eq_some_iff.mp hx
  simp only [show ¬ ((i : Int) < 0) from by omega, if_false, Int.toNat_natCast, Array.getElem?_eq_getElem hlt']
  refine wpAny_bind ?_
  first | refine wpAny_bind (wpAny_typeNameOfWhole_keyiter hit.typeIs (wpAny_pure ?_)) | refine wpAny_bind (wpAny_typeNameOf_keyiter hit.typeIs (wpAny_pure ?_))
  refine wpAny_bind (wpAny_isOneOf_keyiter hit.typeIs ?_)
  show wpAny _ _ (setField (.ref it) 1 (rawInt ((i : Int) + 1)) >>= _) _ _ s
  refine wpAny_bind (wpAny_setField ho hd (by simp) ?_)
  have hit' : (s.heap.update it (Obj.mapFields (·.setIfInBounds 1 (rawInt ((i : Int) + 1))))).IsKeyIter it d (i + 1) n ep :=
    ⟨_, Heap.get?_update_self _ ho (Obj.isFreed_of_fields (Obj.data_mapFields hd _)), (Obj.cls_mapFields ..).trans hc, by rw [Obj.data_mapFields hd]; simp [rawInt]⟩
  refine wpAny_bind (wpAny_holding ?_)
  refine wpAny_bind (wpAny_isOneOf_keyiter (s := { s with heap := s.heap.update it (Obj.mapFields (·.setIfInBounds 1 (rawInt ((i : Int) + 1)))) }) hit'.typeIs ?_)
  show wpAny _ _ (pure es[i].key) _ _ _
  rw [hen]
  exact wpAny_pure (wpAny_pure ⟨_, rfl, wpAny_pure (hQ _ hit' (Heap.SameBut.update ..))⟩)
theorem next_key_end {it d : Addr} {i n ep : Nat} {od : Obj} {es : Array DictEntry} {Q : Option Value → Shared → Prop} (hh : A.handled = none) (hit : s.heap.IsKeyIter it d i n ep) (hod : s.heap.get? d = some od) (hdd : od.data = .dict es ep)
    (hsz : es.size = n) (hge : n ≤ i) (hQ : ∀ h', Heap.ExtBut it s.heap h' → Q none { s with heap := h' }) : wpAny (model prog w) A (pyNext (.ref it)) Q E s := by
  obtain ⟨o, ho, hc, hd⟩ := id hit
  unfold pyNext
  refine wpAny_bind (wpAny_attempt (wpAny_callSpecial?_slot (name := Str.ofString "__next__") hit.typeIs F.slot_dict_keyiterator_next
    (wpAny_call_entry F.slot_dict_keyiterator_next hit.typeIs F.entry_dict_keyiterator_next ?_ (F.args_dict_keyiterator_next_1 _))))
  refine wpAny_bind (wpAny_pure ?_)
  refine wpAny_bind ?_
  refine wpAny_bind ?_
  first | refine wpAny_bind (wpAny_typeNameOfWhole_keyiter hit.typeIs (wpAny_pure ?_)) | refine wpAny_bind (wpAny_typeNameOf_keyiter hit.typeIs (wpAny_pure ?_))
  refine wpAny_bind (wpAny_fieldsOf ho hd ?_)
  have hown : Builtin.Dict_items.ownsTuple "dict_keyiterator" = false := by decide
  simp only [hown, Bool.false_eq_true, if_false]
  show wpAny _ _ (if (Value.ref d == Value.none) = true then _ else _) _ _ s
  rw [if_neg (show ¬ ((Value.ref d == Value.none) = true) from Bool.false_ne_true)]
  refine wpAny_bind (wpAny_pure ?_)
  refine wpAny_bind (wpAny_dictEntries hod hdd ?_)
  rw [if_neg (by rw [hsz]; simp)]
  refine wpAny_bind (wpAny_pure ?_)
  refine wpAny_bind (wpAny_dictEpoch hod hdd ?_)
  rw [if_neg (by simp)]
  refine wpAny_pure ?_
  have hge' : es.size ≤ i := by rw [hsz]; exact hge
  simp only [show ¬ ((i : Int) < 0) from by omega, if_false, Int.toNat_natCast, Array.getElem?_eq_none hge']
  refine wpAny_bind ?_
  first | refine wpAny_bind (wpAny_typeNameOfWhole_keyiter hit.typeIs (wpAny_pure ?_)) | refine wpAny_bind (wpAny_typeNameOf_keyiter hit.typeIs (wpAny_pure ?_))
  show wpAny _ _ (setField (.ref it) 0 .none >>= _) _ _ s
  refine wpAny_bind (wpAny_setField ho hd (by simp) ?_)
  show wpAny _ _ (newExc (.type "StopIteration") [] >>= _) _ _ _
  refine wpAny_bind ?_
  simp only [newExc, newTuple]
  refine wpAny_bind (wpAny_newObj_type ?_ (by size_fits))
  refine wpAny_bind (m := firstArgMember _ _) (wpAny_of_eq (a := Value.none) (by first | rfl | (simp only [firstArgMember]; rfl)) ?_)
  refine wpAny_newObj_type ?_ (by size_fits)
  simp only [raiseNew]
  refine wpAny_bind (wpAny_handled ?_)
  rw [show A.in1.handled = none from hh]
  refine wpAny_bind (wpAny_pure (wpAny_throw ?_))
  refine wpAny_bind (wpAny_isInstance (T := "StopIteration") (b := true) ⟨_, Heap.get?_push_size _ rfl, rfl⟩ isSubtype_stop ?_)
  exact wpAny_pure (hQ _ (((Heap.SameBut.update ..).extBut.push _).push _))
end
theorem kv_get {κ : Type} {kvs : List (κ × V)} {vs : List (κ × Value)} (h : KV kvs vs) : ∀ {i : Nat} {k : κ} {v : V}, kvs[i]? = some (k, v) → ∃ u, vs[i]? = some (k, u) ∧ RelV v u := by
  unfold KV at h
  induction h with
  | nil => intro i k v e; simp at e
  | @cons a b l₁ l₂ r t ih =>
    intro i k v e
    cases i with
    | zero =>
      simp only [List.getElem?_cons_zero, Option.some.injEq] at e
      subst e
      refine ⟨b.2, ?_, r.2⟩
      simp only [List.getElem?_cons_zero]
      exact congrArg some (Prod.ext r.1.symm rfl)
    | succ j =>
      simp only [List.getElem?_cons_succ] at e ⊢
      exact ih e
theorem paired_get {α β : Type} {G : α → β → Prop} {l₁ : List α} {l₂ : List β} (h : Paired G l₁ l₂) : ∀ {i : Nat} {a : α}, l₁[i]? = some a → ∃ b, l₂[i]? = some b ∧ G a b := by
  induction h with
  | nil => intro i a e; simp at e
  | @cons a b l₁ l₂ r t ih =>
    intro i a' e
    cases i with
    | zero =>
      simp only [List.getElem?_cons_zero, Option.some.injEq] at e
      subst e
      exact ⟨b, rfl, r⟩
    | succ j =>
      simp only [List.getElem?_cons_succ] at e ⊢
      exact ih e
theorem relV_key {k : Key} {u : Value} (h : keyIs k u = true) : RelV (kV k) u := by
  rcases keyIs_shape h with ⟨i, t, rfl, rfl⟩ | ⟨x, t, rfl, rfl⟩
  · exact ⟨t, rfl⟩
  · exact ⟨t, rfl⟩
section
variable {X : Cx} {pins : List (Addr × Obj)} {σ : St} {H : Hp} {s : Shared} {d : Addr} {o : Obj}
theorem Inv.frzK {kvs : List (Key × V)} (I : Inv X pins σ H s) (h : H d = some (.frz o (.dK kvs))) :
    (d == sysModules) = false ∧ s.heap.get? d = some o ∧ o.ExactDict ∧ ∃ (es : Array DictEntry) (ep : Nat) (vs : List (Key × Value)), o.data = .dict es ep ∧ es.size = kvs.length ∧ KV kvs vs ∧ s.heap.DictAt (mixKind X.prog X.w) d vs ep := by
  obtain ⟨hd, z, hs, vs, kv, o', es, ep, ho, hx, hdt, r⟩ := I.hok d _ h
  rw [hd] at ho
  cases ho
  refine ⟨hs, hd, hx, es, ep, vs, hdt, ?_, kv, o, es, hd, hx, hdt, r⟩
  have l1 := r.2.1.length
  have l2 : kvs.length = vs.length := Paired.length kv
  rw [Array.length_toList] at l1
  omega
/-- the same for tuple keys -/
theorem Inv.frzT {kvs : List (List Key × V)} (I : Inv X pins σ H s) (h : H d = some (.frz o (.dT kvs))) :
    (d == sysModules) = false ∧ s.heap.get? d = some o ∧ o.ExactDict ∧ ∃ (es : Array DictEntry) (ep : Nat), o.data = .dict es ep ∧ es.size = kvs.length ∧
      ∀ (i : Nat) (k : List Key) (v : V), kvs[i]? = some (k, v) → ∃ (en : DictEntry) (q : Addr), es[i]? = some en ∧ en.key = .ref q ∧ H q = some (.tup (k.map kV)) := by
  obtain ⟨hd, z, hs, xs, pr, o', es, ep, ho, hx, hdt, he, _⟩ := I.hok d _ h
  rw [hd] at ho
  cases ho
  refine ⟨hs, hd, hx, es, ep, hdt, ?_, fun i k v e => ?_⟩
  · have l1 : es.size = xs.length := size_of_entries he
    have l2 : kvs.length = xs.length := Paired.length pr
    omega
  · obtain ⟨b, hb, e1, e2, _⟩ := paired_get pr e
    have q := entry_at he i
    rw [hb] at q
    exact ⟨_, b.2.1, q, rfl, e2⟩
end
/-- the keys of the locked dict at d, in their order -/
def Itk (d : Addr) (o : Obj) (kvs : List (Key × V)) : It :=
  ⟨fun i H => H d = some (.frz o (.dK kvs)) ∧ i < kvs.length, fun i H x H' => H' = H ∧ ∃ k v, kvs[i]? = some (k, v) ∧ x = kV k, fun i H => H d = some (.frz o (.dK kvs)) ∧ kvs.length ≤ i⟩
/-- .. of tuple keys: the key's own tuple -/
def Itkt (d : Addr) (o : Obj) (kvs : List (List Key × V)) : It :=
  ⟨fun i H => H d = some (.frz o (.dT kvs)) ∧ i < kvs.length, fun i H x H' => H' = H ∧ ∃ (k : List Key) (v : V) (q : Addr), kvs[i]? = some (k, v) ∧ x = .ref q ∧ H q = some (.tup (k.map kV)), fun i H => H d = some (.frz o (.dT kvs)) ∧ kvs.length ≤ i⟩
theorem dict_ep {o : Obj} {es es' : Array DictEntry} {ep ep' : Nat} (h : o.data = .dict es ep) (h' : o.data = .dict es' ep') : es' = es ∧ ep' = ep := by
  rw [h] at h'
  cases h'
  exact ⟨rfl, rfl⟩
section
variable {P : Program} {w : World} {K : PySem.W.Frag} {tg : Expr} {d : Addr} {o : Obj} {es : Array DictEntry} {ep : Nat}
theorem turn_keys {kvs : List (Key × V)} (it : Addr) (hod : o.data = .dict es ep) : Turn P w K tg (Itk d o kvs) [it] it (fun i h => h.IsKeyIter it d i kvs.length ep) where
  mem := by simp
  obj := fun i h st b hb => by
    have e : b = it := by simpa using hb
    subst e
    obtain ⟨oi, e, c, dd⟩ := st
    exact ⟨oi, e, fun v z => by rw [dd] at z; cases z⟩
  keep := fun i h h' st k => st.at fun oi e => k it (by simp) oi e
  item := by
    intro X hP hw hK hc i pins s σ H E I hf st hg
    subst hP hw hK
    obtain ⟨hd, hi⟩ := hg
    obtain ⟨f0, f1, f2, f3, f4, f5⟩ := hf it (by simp)
    obtain ⟨hs, hgd, hx, es', ep', vs, hdt, hsz, kv, hm⟩ := I.frzK hd
    obtain ⟨rfl, rfl⟩ := dict_ep hod hdt
    obtain ⟨⟨k, v⟩, hkv⟩ : ∃ p, kvs[i]? = some p := ⟨kvs[i], List.getElem?_eq_getElem hi⟩
    obtain ⟨u, hu, ru⟩ := kv_get kv hkv
    have hl : kvs.length = vs.length := Paired.length kv
    rw [hl] at st
    refine wpAny_pyNext_dict_item st hm hu fun key h' hkey st' sb => ?_
    have I1 : Inv X pins σ H { s with heap := h' } := I.turned (t' := s.toks) (fun b ob hb e => (sb.2 b hb).trans e) f0 f1 f3 f4 f5
    obtain ⟨oi, e, c, dd⟩ := id st'
    refine ⟨key, rfl, go_of (s := { s with heap := h' }) e c dd (by decide) ⟨kV k, H, I1, relV_key (show keyIs k key = true from hkey), ⟨rfl, k, v, hkv, rfl⟩, ?_, fun b hb => (hf b hb).1⟩⟩
    show h'.IsKeyIter it d (i + 1) kvs.length _
    rw [hl]
    exact st'
  done := by
    intro X hP hw hK hc i pins s σ H E I hf st hg
    subst hP hw hK
    obtain ⟨hd, hi⟩ := hg
    obtain ⟨f0, f1, f2, f3, f4, f5⟩ := hf it (by simp)
    obtain ⟨hs, hgd, hx, es', ep', vs, hdt, hsz, kv, hm⟩ := I.frzK hd
    obtain ⟨rfl, rfl⟩ := dict_ep hod hdt
    exact next_key_end (I.ok.hd hc) st hgd hdt hsz hi fun h' eb => ⟨rfl, I.turned (t' := s.toks) (fun b ob hb e => eb b ob hb e) f0 f1 f3 f4 f5⟩
  self := fun A i s Q E st h => wpAny_pyIter_keyiter st h
theorem turn_keysT {kvs : List (List Key × V)} (it : Addr) (hod : o.data = .dict es ep) : Turn P w K tg (Itkt d o kvs) [it] it (fun i h => h.IsKeyIter it d i kvs.length ep) where
  mem := by simp
  obj := fun i h st b hb => by
    have e : b = it := by simpa using hb
    subst e
    obtain ⟨oi, e, c, dd⟩ := st
    exact ⟨oi, e, fun v z => by rw [dd] at z; cases z⟩
  keep := fun i h h' st k => st.at fun oi e => k it (by simp) oi e
  item := by
    intro X hP hw hK hc i pins s σ H E I hf st hg
    subst hP hw hK
    obtain ⟨hd, hi⟩ := hg
    obtain ⟨f0, f1, f2, f3, f4, f5⟩ := hf it (by simp)
    obtain ⟨hs, hgd, hx, es', ep', hdt, hsz, ent⟩ := I.frzT hd
    obtain ⟨rfl, rfl⟩ := dict_ep hod hdt
    obtain ⟨⟨k, v⟩, hkv⟩ : ∃ p, kvs[i]? = some p := ⟨kvs[i], List.getElem?_eq_getElem hi⟩
    obtain ⟨en, q, hen, hkey, hq⟩ := ent i k v hkv
    refine next_key_item st hgd hdt hsz hen fun h' st' sb => ?_
    have I1 : Inv X pins σ H { s with heap := h' } := I.turned (t' := s.toks) (fun b ob hb e => (sb.2 b hb).trans e) f0 f1 f3 f4 f5
    obtain ⟨oi, e, c, dd⟩ := id st'
    exact ⟨en.key, rfl, go_of (s := { s with heap := h' }) e c dd (by decide) ⟨.ref q, H, I1, hkey, ⟨rfl, k, v, q, hkv, rfl, hq⟩, st', fun b hb => (hf b hb).1⟩⟩
  done := by
    intro X hP hw hK hc i pins s σ H E I hf st hg
    subst hP hw hK
    obtain ⟨hd, hi⟩ := hg
    obtain ⟨f0, f1, f2, f3, f4, f5⟩ := hf it (by simp)
    obtain ⟨hs, hgd, hx, es', ep', hdt, hsz, ent⟩ := I.frzT hd
    obtain ⟨rfl, rfl⟩ := dict_ep hod hdt
    exact next_key_end (I.ok.hd hc) st hgd hdt hsz hi fun h' eb => ⟨rfl, I.turned (t' := s.toks) (fun b ob hb e => eb b ob hb e) f0 f1 f3 f4 f5⟩
  self := fun A i s Q E st h => by
    refine wpAny_pyIter_slot st.typeIs F.slot_dict_keyiterator_iter (wpAny_call_entry F.slot_dict_keyiterator_iter st.typeIs F.entry_dict_keyiterator_iter ?_ (F.args_dict_keyiterator_iter_1 _))
    show wpAny _ _ (ret (.ref it)) _ _ s
    exact wpAny_pure ⟨_, rfl, "dict_keyiterator", _, st.typeIs, F.slot_dict_keyiterator_next.lookup, h⟩
end
/-- the dict is locked (tLock, or by the caller) -/
def iKeys (td : TE) : TI := fun σ H R => td σ H fun x H1 => ∃ d o, x = .ref d ∧ ((∃ kvs, H1 d = some (.frz o (.dK kvs)) ∧ R (Itk d o kvs) H1) ∨ ∃ kvs, H1 d = some (.frz o (.dT kvs)) ∧ R (Itkt d o kvs) H1)
section
variable {X : Cx} {tg e : Expr} {td : TE} {apos cpos : Pos}
theorem pi_keys (he : PE X e td) : PI X tg e (iKeys td) := by
  intro pins s σ H R I h
  refine thn (he pins s σ H _ I h) fun u s1 ⟨x, H1, I1, rx, d, o, ex, q⟩ => ?_
  subst ex
  obtain rfl : u = Value.ref d := rx
  rcases q with ⟨kvs, hd, q⟩ | ⟨kvs, hd, q⟩
  · obtain ⟨hs, hgd, hx, es, ep, vs, hdt, hsz, kv, hm⟩ := I1.frzK hd
    refine iter_keys hs hgd hx hdt (pi_one (tk := s1.toks) I1 _ (turn_keys _ hdt) ⟨_, Heap.get?_push_size _ rfl, rfl, ?_⟩ q)
    rw [hsz] <;> rfl
  · obtain ⟨hs, hgd, hx, es, ep, hdt, hsz, ent⟩ := I1.frzT hd
    refine iter_keys hs hgd hx hdt (pi_one (tk := s1.toks) I1 _ (turn_keysT _ hdt) ⟨_, Heap.get?_push_size _ rfl, rfl, ?_⟩ q)
    rw [hsz] <;> rfl
end
/-- the list at a as it stands at each turn, each item in a new pair -/
def Ite (K : PySem.W.Frag) (a : Addr) : It :=
  ⟨fun i H => ∃ (xs : List V) (x : V), SqL K H a xs ∧ xs[i]? = some x, fun i H v H' => ∃ T x, v = .ref T ∧ H T = none ∧ H' = upd H T (.tup [.int (i : Nat), x]) ∧ ∀ xs, SqL K H a xs → xs[i]? = some x, fun i H => ∃ xs : List V, SqL K H a xs ∧ xs.length ≤ i⟩
theorem turn_enum {P : Program} {w : World} {K : PySem.W.Frag} {elts : List Expr} {kk : Nat} {tpos : Pos} (a e it : Addr) :
    Turn P w K (.Tuple elts kk tpos) (Ite K a) [e, it] e (fun i h => (∃ old, IsEnum h e it ((i : Nat) : Int) old) ∧ h.IsListIter it a i ∧ e ≠ it) where
  mem := by simp
  obj := fun i h st b hb => by
    obtain ⟨⟨old, he⟩, ⟨o, ho, hc, hd⟩, _⟩ := st
    have e' : b = e ∨ b = it := by simpa using hb
    rcases e' with z | z
    · rw [z]; exact ⟨_, he, fun v q => nomatch q⟩
    · rw [z]; exact ⟨o, ho, fun v q => by rw [hd] at q; cases q⟩
  keep := fun i h h' st k => let ⟨⟨old, he⟩, hi, hne⟩ := st; ⟨⟨old, k e (by simp) _ he⟩, hi.at fun o q => k it (by simp) o q, hne⟩
  item := by
    intro X hP hw hK hc i pins s σ H E I hf st hg
    subst hP hw hK
    obtain ⟨⟨old, he⟩, hit, hne⟩ := st
    obtain ⟨xs, x, hq, hx⟩ := hg
    obtain ⟨its, rv, p, hz⟩ := I.list hq
    obtain ⟨u, hu, ru⟩ := rv.get hx
    have hel : e < s.heap.objs.size := Heap.lt_size he
    have hil : it < s.heap.objs.size := by obtain ⟨_, q, _⟩ := hit; exact Heap.lt_size q
    refine wpAny_pyNext_enum_item he hit p.isList (x := u) (by simpa using hu) hne fun h' ho hit' hT hsz hk => ?_
    refine ⟨_, rfl, wpAny_letOwnedTupleGo_enum (s := { s with heap := h', toks := s.toks + 1 }) ho fun h'' he' sb => ?_⟩
    have hT2 : h''.get? s.heap.objs.size = some { cls := .type "tuple", data := .seq #[.int i s.toks, u] } := (sb.2 _ (Nat.ne_of_gt hel)).trans hT
    have new : ObjOk X.prog X.w (upd H s.heap.objs.size (.tup [.int (i : Nat), x])) h'' s.heap.objs.size (.tup [.int (i : Nat), x]) :=
      ⟨by show 2 ≤ sizeLine; decide, [.int i s.toks, u], .cons ⟨_, rfl⟩ (.cons ru .nil), ⟨_, hT2, rfl, _, rfl⟩⟩
    have I1 : Inv X pins σ (upd H s.heap.objs.size (.tup [.int (i : Nat), x])) { s with heap := h'', toks := s.toks + 1 } :=
      I.turnedNew (ch := [e, it]) (fun b ob hb q => (sb.2 b (fun z => hb (by simp [z]))).trans (hk b ob (fun z => hb (by simp [z])) (fun z => hb (by simp [z])) q)) hf (Nat.le_refl _) new
    refine ⟨.ref s.heap.objs.size, _, I1, rfl, ⟨_, x, rfl, I.hok.fresh (Nat.le_refl _), rfl, fun ys hy => by rw [I.list_inj hy hq]; exact hx⟩, ⟨⟨u, ?_⟩, hit'.at fun o q => (sb.2 it (Ne.symm hne)).trans q, hne⟩, fun b hb => ?_⟩
    · have e1 : ((i + 1 : Nat) : Int) = (i : Int) + 1 := by omega
      rw [e1]; exact he'
    · have hb' : b < s.heap.objs.size := by
        have e' : b = e ∨ b = it := by simpa using hb
        rcases e' with z | z
        · rw [z]; exact hel
        · rw [z]; exact hil
      rw [upd_ne (Nat.ne_of_lt hb')]
      exact (hf b hb).1
  done := by
    intro X hP hw hK hc i pins s σ H E I hf st hg
    subst hP hw hK
    obtain ⟨⟨old, he⟩, hit, hne⟩ := st
    obtain ⟨xs, hq, hx⟩ := hg
    obtain ⟨its, rv, p, hz⟩ := I.list hq
    obtain ⟨f0, f1, f2, f3, f4, f5⟩ := hf it (by simp)
    have hl := rv.length
    exact wpAny_pyNext_enum_end (I.ok.hd hc) he hit p.isList (by simp; omega) fun h' eb => ⟨rfl, I.turned (t' := s.toks) (fun b o hb q => eb b o hb q) f0 f1 f3 f4 f5⟩
  self := fun A i s Q E st h => let ⟨⟨_, he⟩, _⟩ := st; wpAny_pyIter_enum he h
def iEnum (K : PySem.W.Frag) (ta : TA) : TI := fun σ H R => ta σ H fun vs H1 => ∃ a xs, vs = [.ref a] ∧ SqL K H1 a xs ∧ R (Ite K a) H1
theorem pi_enum {X : Cx} {e : Expr} {ta : TA} {p pos tpos : Pos} {elts : List Expr} {kk : Nat} (hg : Gl X "enumerate") (hm : X.mg "enumerate" = none) (ha : PA X [e] ta) (hs : starEach [e] X.env = [(false, eval e X.env)] := by rfl) :
    PI X (.Tuple elts kk tpos) (.Call (.Name "enumerate" p) [e] [] pos) (iEnum X.K ta) := by
  intro pins s σ H R I h
  refine Call_ (ld_blt I hg hm boot_enumerate (PyProof.Rows.callWith_type1 (thn (ha pos pins s σ H _ I h) fun us s1 ⟨vs, H1, I1, r1, q1⟩ => ?_) hs rfl))
  obtain ⟨a, xs, ex, hq, q⟩ := q1
  subst ex
  cases r1 with
  | cons r rr =>
    cases rr
    cases r
    obtain ⟨its, rv, p', hz⟩ := I1.list hq
    refine call_enumerate_list p'.isList fun h' he hit hsz hk => wpAny_pyIter_enum he ?_
    have I2 : Inv X pins σ H1 { s1 with heap := h' } := I1.kept (t' := s1.toks) hk
    refine ⟨s1.heap.objs.size + 1, [s1.heap.objs.size + 1, s1.heap.objs.size], _, _, H1, rfl, I2, turn_enum a (s1.heap.objs.size + 1) s1.heap.objs.size, ⟨⟨.none, he⟩, hit, Nat.succ_ne_self _⟩, fun b hb => ?_, q⟩
    have e' : b = s1.heap.objs.size + 1 ∨ b = s1.heap.objs.size := by simpa using hb
    have hle : s1.heap.objs.size ≤ b := by
      rcases e' with z | z
      · rw [z]; exact Nat.le_add_right _ _
      · rw [z]; exact Nat.le_refl _
    exact I1.fpOk hle (I1.hok.fresh hle)
end L2
section 
namespace Bits
open PySem PyProof.Rows
end Bits
end 
section 
namespace TL
open PySem PySem.Builtin PySem.Builtin.Str PySem.StrLaws
end TL
end 
namespace L2
open PySem PySem.Spec PyProof.Rows
section
variable {X : Cx} {pins : List (Addr × Obj)} {σ : St} {H : Hp} {s : Shared} {Q : VK}
end
section
variable {X : Cx}
end
section
variable {X : Cx} {o e : Expr} {to te : TE}
end
end L2
namespace L2
open PySem PySem.Spec PyProof.Rows
section
variable {X : Cx}
end
end L2
namespace Att
open PySem PySem.W PySem.Calls PyProof.Rows
section
variable {prog : Program} {w : World} {A : Around} {E : Value → Shared → Prop} {s : Shared} {K : Frag}
end
end Att
namespace L2
open PySem PySem.Spec PyProof.Rows
end L2
namespace L2
open PySem PySem.Spec PyProof.Rows
abbrev KOf {K : PySem.W.Frag} {h : Heap} (_ : K.In h) : PySem.W.Frag := K
end L2
namespace L2
open PySem PySem.Spec PyProof.Rows
/-- the j-th statement of a class's body -/
def inClass (s : Stmt) (j : Nat) : Stmt := match s with
  | .ClassDef _ _ _ body _ _ _ _ _ _ _ => body.getD j (.Pass ⟨0, 0, 0, 0⟩)
  | _ => .Pass ⟨0, 0, 0, 0⟩
def defArgs (s : Stmt) : Arguments := match s with
  | .FunctionDef _ a _ _ _ _ _ _ _ _ => a
  | _ => { posonlyargs := [], args := [], vararg := none, kwonlyargs := [], kw_defaults := [], kwarg := none, defaults := [] }
def defBody (s : Stmt) : List Stmt := match s with
  | .FunctionDef _ _ b _ _ _ _ _ _ _ => b
  | _ => []
def defScope (s : Stmt) : Scope := match s with
  | .FunctionDef _ _ _ _ _ _ sc _ _ _ => sc
  | _ => { kind := .function, names := [], isGenerator := false, isCoroutine := false }
abbrev CX0 : CXT := fun _ _ _ _ _ _ => False
abbrev E0 : XK := fun _ _ _ => False
theorem pass0 {X : Cx} : Passes CX0 X E0 := fun _ _ _ _ _ _ _ h => h.elim
structure Fun (K : PySem.W.Frag) (x qual : Str) (st : Stmt) (f : Addr) (fd : FuncData) : Prop where
  ex : ∃ (oc : Value) (od : Option Addr) (kV doc pm : Value) (an : Option Addr) (cdv ct : Value) (osl : Array (Option Value)),
    fd = PySem.W.fnOf x qual (defArgs st) (defBody st) (defScope st) .none kV doc pm an cdv ct ∧ K.lookup f = some ⟨oc, od, .func fd, osl⟩ ∧ PySem.W.codeIn K cdv qual = true
  kp : PySem.W.keepIn K (.ref f) = true
section
variable {P : Program} {w : World} {K : PySem.W.Frag} {mg : Str → Option Value} {base : Heap}
/-- THE RULE for a def: its body as a term of rules, and the reading of that term -/
theorem Fun.ok {x qual : Str} {st : Stmt} {f : Addr} {fd : FuncData} {N ps : List Str} {k : Nat} {sp : Sp} (F : Fun K x qual st f fd) (S : FnScope N ps (defScope st)) (len : ∀ vs H Q E, sp vs H Q E → vs.length = ps.length)
    (hbody : ∀ (cdv : Value) (A : Around) (outer : List Env) (s : Shared) (H : Hp) (vs : List V) (Q : VK) (E : XK), Room k (A.deeper (envOfC qual (defScope st) s.heap.objs.size f cdv)) → sp vs H Q E →
      ∃ t, PSs (cxOf CX0 P w K mg base N qual (defScope st) f cdv A outer s H E).nox (defBody st) t ∧ t { nx := fun _ H' => Q .non H', rt := Q } (start N vs) H) : FnOk P w K mg base CX0 (k + 1) f fd ps sp := by
  obtain ⟨oc, od, kV, doc, pm, an, cdv, ct, osl, rfl, lk, hcd⟩ := F.ex
  refine fn_of lk hcd S len fun A outer s H vs Q E hr hsp => ?_
  obtain ⟨t, h, q⟩ := hbody cdv A outer s H vs Q E hr hsp
  exact ⟨t, h.nox, q⟩
/-- how its arguments bind (no defaults): h is «fun _ _ _ _ _ _ us hl => match us, hl with | [_, _], _ => rfl», one _ a parameter -/
theorem Fun.binds {x qual : Str} {st : Stmt} {f : Addr} {fd : FuncData} {ps : List Str} (F : Fun K x qual st f fd)
    (h : ∀ (kV doc pm : Value) (an : Option Addr) (cdv ct : Value) (us : List Value), us.length = ps.length → bindArgs (PySem.W.fnOf x qual (defArgs st) (defBody st) (defScope st) .none kV doc pm an cdv ct) ⟨us, []⟩ = pure (ps.zip us)) : Binds K fd ps [] := by
  obtain ⟨oc, od, kV, doc, pm, an, cdv, ct, osl, rfl, lk, hcd⟩ := F.ex
  exact .all (h kV doc pm an cdv ct)
theorem fun_mk {x qual : Str} {st : Stmt} {f : Addr} {oc : Value} {od an : Option Addr} {osl : Array (Option Value)} {kV doc pm cdv ct : Value} (l : K.lookup f = some ⟨oc, od, .func (PySem.W.fnOf x qual (defArgs st) (defBody st) (defScope st) .none kV doc pm an cdv ct), osl⟩)
    (c : PySem.W.codeIn K cdv qual = true) (k : PySem.W.keepIn K (.ref f) = true) : Fun K x qual st f (PySem.W.fnOf x qual (defArgs st) (defBody st) (defScope st) .none kV doc pm an cdv ct) := ⟨⟨oc, od, kV, doc, pm, an, cdv, ct, osl, rfl, l, c⟩, k⟩
end
theorem hu_of {A : Around} {k : Nat} (hr : Room k A) : A.units + 1 < cLine := Nat.lt_of_le_of_lt (Nat.add_le_add_left (by decide : 1 ≤ 64) _) hr.units
section
variable {X : Cx}
theorem pv (i : Nat) {x : Str} {pos : Pos} (hN : X.N[i]? = some x := by rfl) (hv : Vis X.env.scope x := by first | exact Or.inl rfl | exact Or.inr (Or.inl rfl) | exact Or.inr (Or.inr rfl)) (hd : (x == ("__debug__" : Str)) = false := by decide)
    (hcd : (x == ("__classdict__" : Str)) = false := by decide) : PE X (.Name x pos) (tVar i) := pe_var hN hv hd hcd
end
theorem iteF {A B : Prop} (h : B) : if false = true then A else B := by
  rw [if_neg Bool.false_ne_true]
  exact h
theorem iteT {A B : Prop} (h : A) : if true = true then A else B := by
  rw [if_pos rfl]
  exact h
theorem ite2 {c A B : Prop} [Decidable c] (h1 : c → A) (h2 : ¬ c → B) : if c then A else B := by
  by_cases h : c
  · rw [if_pos h]
    exact h1 h
  · rw [if_neg h]
    exact h2 h
/-- all that was tracked is as it was -/
def Same (H H' : Hp) : Prop := ∀ b o, H b = some o → H' b = some o
theorem Same.refl (H : Hp) : Same H H := fun _ _ h => h
theorem Same.trans {H H1 H2 : Hp} (a : Same H H1) (b : Same H1 H2) : Same H H2 := fun c o h => b c o (a c o h)
theorem Same.free {H H' : Hp} (e : Same H H') {l : Addr} (h : H' l = Option.none) : H l = Option.none := by
  cases q : H l with
  | none => rfl
  | some o =>
    rw [e l o q] at h
    cases h
theorem Same.seq {K : PySem.W.Frag} {H H' : Hp} {a : Addr} {xs : List V} (e : Same H H') (h : SqL K H a xs) : SqL K H' a xs := by
  rcases h with (h | ⟨o, h⟩) | h
  · exact .inl (.inl (e _ _ h))
  · exact .inl (.inr ⟨o, e _ _ h⟩)
  · exact .inr h
section
variable {κ : Type} [DecidableEq κ]
end
theorem at_of {xs : List V} {z : Int} {j : Nat} {v : V} (e : z = (j : Int)) (h : xs[j]? = some v) : atI xs z = some v := by
  rw [e]
  exact atI_nat h
/-- a new instance and its __init__ leave all that was tracked as it was -/
theorem Same.made {H H1 : Hp} {x dx C : Addr} (nx : H x = Option.none) (nd : H dx = Option.none) (k : ∀ b o, (upd (upd H dx (.own x)) x (.ins C dx [])) b = some o → b ≠ x → H1 b = some o) : Same H H1 := fun b o e =>
  k b o (by rw [upd_ne (ne_of_none e nx), upd_ne (ne_of_none e nd)]; exact e) (ne_of_none e nx)
end L2
section
set_option Elab.async false
set_option linter.all false
set_option maxRecDepth 100000
set_option maxHeartbeats 2000000
namespace L2
open PySem PySem.Spec PyProof.Rows
open PySem.W (WData Codec OpenSpec Well WellAll ReadsW ReadsAllW)
mutual
/-- x stands for the datum d, lists and tuples all the way -/
inductive Dw (K : PySem.W.Frag) (H : Hp) : V → WData → Prop
  | non : Dw K H .non .none
  | bl (b : Bool) : Dw K H (.bl b) (.bool b)
  | int (i : Int) : Dw K H (.int i) (.int i)
  | str (x : Str) : Dw K H (.str x) (.str x)
  | byt (b : Array UInt8) : Dw K H (.byt b) (.bytes b.toList)
  | lst {a : Addr} {xs : List V} {ds : List WData} : SqL K H a xs → DwAll K H xs ds → Dw K H (.ref a) (.list ds)
  | tup {a : Addr} {xs : List V} {ds : List WData} : SqT K H a xs → DwAll K H xs ds → Dw K H (.ref a) (.tuple ds)
inductive DwAll (K : PySem.W.Frag) (H : Hp) : List V → List WData → Prop
  | nil : DwAll K H [] []
  | cons {v : V} {vs : List V} {d : WData} {ds : List WData} : Dw K H v d → DwAll K H vs ds → DwAll K H (v :: vs) (d :: ds)
end
theorem dw_ints {K : PySem.W.Frag} {H : Hp} : ∀ ns : List Int, DwAll K H (ns.map V.int) (ns.map WData.int)
  | [] => .nil
  | n :: r => .cons (.int n) (dw_ints r)
theorem ints_dw {K : PySem.W.Frag} {H : Hp} : ∀ (ns : List Int) (xs : List V), DwAll K H xs (ns.map WData.int) → xs = ns.map V.int
  | [], xs, h => by
    cases h
    rfl
  | n :: r, xs, h => by
    cases h with
    | cons h1 h2 =>
      cases h1
      rw [ints_dw r _ h2] <;> rfl
section
variable {P : Program} {w : World} {K : PySem.W.Frag} {H : Hp} {h : Heap} {R : PySem.W.WRecords} {cl : Str → Option Addr}
theorem sqL_at {a : Addr} {xs : List V} (hok : HOk P w H h) (KX : K.In h) (q : SqL K H a xs) : ∃ (its : List Value) (o : Obj) (n : Nat), Vals xs its ∧ h.get? a = some o ∧ o.cls = .type "list" ∧ o.data = .seq its.toArray n := by
  rcases q with q | ⟨o, its, n, e, hc, _, hd, _, hv⟩
  · obtain ⟨_, its, n, hv, e⟩ := (show ObjOk P w H h a (.lst xs) from q.ok hok)
    exact ⟨its, _, n, hv, e, rfl, rfl⟩
  · exact ⟨its.toList, o, n, hv, KX _ _ e, hc, by simp [hd]⟩
theorem sqT_at {a : Addr} {xs : List V} (hok : HOk P w H h) (KX : K.In h) (q : SqT K H a xs) : ∃ (its : List Value) (o : Obj) (n : Nat), Vals xs its ∧ h.get? a = some o ∧ o.cls = .type "tuple" ∧ o.data = .seq its.toArray n := by
  rcases q with q | ⟨o, its, n, e, hc, hd, _, hv⟩
  · obtain ⟨_, its, hv, o, e, hc, n, hd⟩ := (show ObjOk P w H h a (.tup xs) from q.ok hok)
    exact ⟨its, o, n, hv, e, hc, hd⟩
  · exact ⟨its.toList, o, n, hv, KX _ _ e, hc, by simp [hd]⟩
mutual
theorem Dw.reads (hok : HOk P w H h) (KX : K.In h) : ∀ (d : WData) (v : V) (u : Value), Dw K H v d → RelV v u → ∃ as, ReadsW R cl h u d as
  | .none, _, _, x, r => by
    cases x
    cases r
    exact ⟨_, ReadsW.none⟩
  | .bool b, _, _, x, r => by
    cases x
    cases r
    exact ⟨_, ReadsW.bool b⟩
  | .int i, _, _, x, r => by
    cases x
    obtain ⟨t, rfl⟩ := r
    exact ⟨_, ReadsW.int i t⟩
  | .str s, _, _, x, r => by
    cases x
    obtain ⟨t, rfl⟩ := r
    exact ⟨_, ReadsW.str s t⟩
  | .bytes b, _, _, x, r => by
    cases x
    obtain ⟨t, rfl⟩ := r
    exact ⟨_, ReadsW.bytes _ t⟩
  | .list ds, _, _, x, r => by
    cases x with
    | lst hs ha =>
      cases r
      obtain ⟨its, o, n, rv, ho, hc, hd⟩ := sqL_at hok KX hs
      obtain ⟨as, hr⟩ := Dw.readsAll hok KX ds _ its ha rv
      exact ⟨_, ReadsW.list ho hc hd hr⟩
  | .tuple ds, _, _, x, r => by
    cases x with
    | tup hs ha =>
      cases r
      obtain ⟨its, o, n, rv, ho, hc, hd⟩ := sqT_at hok KX hs
      obtain ⟨as, hr⟩ := Dw.readsAll hok KX ds _ its ha rv
      exact ⟨_, ReadsW.tuple ho hc hd hr⟩
  | .float _, _, _, x, _ => by cases x
  | .dict _, _, _, x, _ => by cases x
  | .bytearray _, _, _, x, _ => by cases x
  | .set _, _, _, x, _ => by cases x
  | .frozenset _, _, _, x, _ => by cases x
  | .obj _ _, _, _, x, _ => by cases x
theorem Dw.readsAll (hok : HOk P w H h) (KX : K.In h) : ∀ (ds : List WData) (vs : List V) (us : List Value), DwAll K H vs ds → Vals vs us → ∃ as, ReadsAllW R cl h us ds as
  | [], _, _, x, r => by
    cases x
    cases r
    exact ⟨_, ReadsAllW.nil⟩
  | d :: ds, _, _, x, r => by
    cases x with
    | cons h1 h2 =>
      cases r with
      | cons r1 r2 =>
        obtain ⟨as, q1⟩ := Dw.reads hok KX d _ _ h1 r1
        obtain ⟨bs, q2⟩ := Dw.readsAll hok KX ds _ _ h2 r2
        exact ⟨_, ReadsAllW.cons q1 q2⟩
end
end
mutual
/-- data that a codec tells -/
def plW : WData → Bool
  | .none => true
  | .bool _ => true
  | .int _ => true
  | .str _ => true
  | .bytes _ => true
  | .list xs => plWs xs
  | .tuple xs => plWs xs
  | _ => false
def plWs : List WData → Bool
  | [] => true
  | x :: r => plW x && plWs r
end
theorem plWs_map {α : Type} {f : α → WData} (h : ∀ a, plW (f a) = true) : ∀ l : List α, plWs (l.map f) = true
  | [] => rfl
  | x :: r => by
    show (plW (f x) && plWs (r.map f)) = true
    rw [h x, plWs_map h r] <;> rfl
theorem pl_enc : ∀ (c : Codec) (a : c.denote), plW (c.enc a) = true
  | .unit, _ => rfl
  | .bool, _ => rfl
  | .int _ _, _ => rfl
  | .nat _ _, _ => rfl
  | .u8, _ => rfl
  | .bytes _ _, _ => rfl
  | .text _ _ _ _, _ => rfl
  | .list _ _ c, a => plWs_map (fun x => pl_enc c x) a
  | .pair c d, a => by
    show (plW (c.enc a.1) && (plW (d.enc a.2) && true)) = true
    rw [pl_enc c a.1, pl_enc d a.2] <;> rfl
  | .triple c d e, a => by
    show (plW (c.enc a.1) && (plW (d.enc a.2.1) && (plW (e.enc a.2.2) && true))) = true
    rw [pl_enc c a.1, pl_enc d a.2.1, pl_enc e a.2.2] <;> rfl
  | .option c, none => rfl
  | .option c, some x => pl_enc c x
theorem pl_encAll : ∀ (cs : List Codec) (a : Codec.denoteAll cs), plWs (Codec.encAll cs a) = true
  | [], _ => rfl
  | c :: cs, a => by
    show (plW (c.enc a.1) && plWs (Codec.encAll cs a.2)) = true
    rw [pl_enc c a.1, pl_encAll cs a.2] <;> rfl
theorem weight_mem : ∀ {xs : List WData} {d : WData}, d ∈ xs → d.weight ≤ WData.weightAll xs
  | [], d, h => absurd h (by simp)
  | x :: r, d, h => by
    show d.weight ≤ x.weight + 1 + WData.weightAll r
    rcases List.mem_cons.mp h with e | m
    · rw [e]
      omega
    · have z := weight_mem m
      omega
def toV : Value → V
  | .none => .non
  | .bool b => .bl b
  | .int i _ => .int i
  | .str x _ => .str x
  | .bytes b _ => .byt b
  | .ref a => .ref a
  | _ => .non
/-- a value of the arguments, its objects among A -/
def OkU (A : List Addr) : Value → Prop
  | .none => True
  | .bool _ => True
  | .int _ _ => True
  | .str _ _ => True
  | .bytes _ _ => True
  | .ref a => a ∈ A
  | _ => False
theorem OkU.mono {A B : List Addr} (h : ∀ a ∈ A, a ∈ B) : ∀ {u : Value}, OkU A u → OkU B u := fun {u} x => by
  cases u with
  | ref a => exact h a x
  | none => trivial
  | bool b => trivial
  | int i t => trivial
  | str s t => trivial
  | bytes b t => trivial
  | _ => exact False.elim x
theorem relV_toV {A : List Addr} {u : Value} (x : OkU A u) : RelV (toV u) u := by
  cases u with
  | ref a => rfl
  | none => rfl
  | bool b => rfl
  | int i t => exact ⟨t, rfl⟩
  | str s t => exact ⟨t, rfl⟩
  | bytes b t => exact ⟨t, rfl⟩
  | _ => exact False.elim x
theorem vals_toV {A : List Addr} : ∀ {vs : List Value}, (∀ u ∈ vs, OkU A u) → Vals (vs.map toV) vs
  | [], _ => .nil
  | u :: r, h => .cons (relV_toV (h u (List.mem_cons_self ..))) (vals_toV fun x hx => h x (List.mem_cons_of_mem _ hx))
/-- an object of the arguments -/
def ArgOb (h : Heap) (A : List Addr) (a : Addr) : Prop := ∃ vs : List Value, vs.length ≤ sizeLine ∧ (∀ u ∈ vs, OkU A u) ∧
  (h.get? a = some { cls := .type "list", data := .seq vs.toArray } ∨ h.get? a = some { cls := .type "tuple", data := .seq vs.toArray })
theorem ArgOb.mono {h : Heap} {A B : List Addr} {a : Addr} (k : ∀ a ∈ A, a ∈ B) (x : ArgOb h A a) : ArgOb h B a := by
  obtain ⟨vs, h1, h2, h3⟩ := x
  exact ⟨vs, h1, fun u hu => (h2 u hu).mono k, h3⟩
theorem wellAll_len {P : Params} {h : Heap} : ∀ {vs : List Value} {ds : List WData}, WellAll P h vs ds → vs.length = ds.length
  | _, _, .nil => rfl
  | _, _, .cons _ b => by
    show _ + 1 = _ + 1
    rw [wellAll_len b]
theorem well_list {P : Params} {h : Heap} {v : Value} {ds : List WData} (x : Well P h v (.list ds)) : ∃ (a : Addr) (vs : List Value), v = .ref a ∧ h.get? a = some { cls := .type "list", data := .seq vs.toArray } ∧ WellAll P h vs ds := by
  cases x with
  | list ho hall => exact ⟨_, _, rfl, ho, hall⟩
theorem well_tuple {P : Params} {h : Heap} {v : Value} {ds : List WData} (x : Well P h v (.tuple ds)) : ∃ (a : Addr) (vs : List Value), v = .ref a ∧ h.get? a = some { cls := .type "tuple", data := .seq vs.toArray } ∧ WellAll P h vs ds := by
  cases x with
  | tuple ho hall => exact ⟨_, _, rfl, ho, hall⟩
theorem well_cons {P : Params} {h : Heap} {us : List Value} {d : WData} {ds : List WData} (x : WellAll P h us (d :: ds)) : ∃ (v : Value) (vs : List Value), us = v :: vs ∧ Well P h v d ∧ WellAll P h vs ds := by
  cases x with
  | cons a b => exact ⟨_, _, rfl, a, b⟩
theorem line_of {n : Nat} (h : n ≤ 1048576) : n ≤ sizeLine := Nat.le_trans h (by decide)
section
variable {P : Params} {h : Heap}
mutual
theorem area_one : ∀ (d : WData) (v : Value), Well P h v d → plW d = true → d.weight ≤ 1048576 → ∃ A : List Addr, OkU A v ∧ ∀ a ∈ A, ArgOb h A a
  | .none, _, x, _, _ => by
    cases x
    exact ⟨[], trivial, fun a m => absurd m (by simp)⟩
  | .bool b, _, x, _, _ => by
    cases x
    exact ⟨[], trivial, fun a m => absurd m (by simp)⟩
  | .int i, _, x, _, _ => by
    cases x
    exact ⟨[], trivial, fun a m => absurd m (by simp)⟩
  | .str s, _, x, _, _ => by
    cases x
    exact ⟨[], trivial, fun a m => absurd m (by simp)⟩
  | .bytes b, _, x, _, _ => by
    cases x
    exact ⟨[], trivial, fun a m => absurd m (by simp)⟩
  | .list ds, _, x, p, z => by
    obtain ⟨a, vs, rfl, ho, hall⟩ := well_list x
    have z2 : WData.weightAll ds ≤ 1048576 := z
    obtain ⟨A, h1, h2⟩ := area_all ds _ hall p fun d hd => Nat.le_trans (weight_mem hd) z2
    have k : ∀ b ∈ A, b ∈ a :: A := fun b hb => List.mem_cons_of_mem _ hb
    refine ⟨a :: A, List.mem_cons_self .., fun b hb => ?_⟩
    rcases List.mem_cons.mp hb with e | m
    · rw [e]
      exact ⟨vs, line_of (by rw [wellAll_len hall]; exact Nat.le_trans (PySem.W.length_le_weightAllW ds) z2), fun u hu => (h1 u hu).mono k, .inl ho⟩
    · exact (h2 b m).mono k
  | .tuple ds, _, x, p, z => by
    obtain ⟨a, vs, rfl, ho, hall⟩ := well_tuple x
    have z2 : WData.weightAll ds ≤ 1048576 := z
    obtain ⟨A, h1, h2⟩ := area_all ds _ hall p fun d hd => Nat.le_trans (weight_mem hd) z2
    have k : ∀ b ∈ A, b ∈ a :: A := fun b hb => List.mem_cons_of_mem _ hb
    refine ⟨a :: A, List.mem_cons_self .., fun b hb => ?_⟩
    rcases List.mem_cons.mp hb with e | m
    · rw [e]
      exact ⟨vs, line_of (by rw [wellAll_len hall]; exact Nat.le_trans (PySem.W.length_le_weightAllW ds) z2), fun u hu => (h1 u hu).mono k, .inr ho⟩
    · exact (h2 b m).mono k
  | .float _, _, _, p, _ => Bool.noConfusion (show false = true from p)
  | .dict _, _, _, p, _ => Bool.noConfusion (show false = true from p)
  | .bytearray _, _, _, p, _ => Bool.noConfusion (show false = true from p)
  | .set _, _, _, p, _ => Bool.noConfusion (show false = true from p)
  | .frozenset _, _, _, p, _ => Bool.noConfusion (show false = true from p)
  | .obj _ _, _, _, p, _ => Bool.noConfusion (show false = true from p)
theorem area_all : ∀ (ds : List WData) (vs : List Value), WellAll P h vs ds → plWs ds = true → (∀ d ∈ ds, d.weight ≤ 1048576) → ∃ A : List Addr, (∀ u ∈ vs, OkU A u) ∧ ∀ a ∈ A, ArgOb h A a
  | [], _, x, _, _ => by
    cases x
    exact ⟨[], fun u m => absurd m (by simp), fun a m => absurd m (by simp)⟩
  | d :: ds, _, x, p, z => by
    obtain ⟨v, vs, rfl, x1, x2⟩ := well_cons x
    have q : plW d = true ∧ plWs ds = true := Bool.and_eq_true_iff.mp p
    obtain ⟨A, a1, a2⟩ := area_one d v x1 q.1 (z d (List.mem_cons_self ..))
    obtain ⟨B, b1, b2⟩ := area_all ds vs x2 q.2 fun e he => z e (List.mem_cons_of_mem _ he)
    have kA : ∀ b ∈ A, b ∈ A ++ B := fun b hb => List.mem_append.mpr (.inl hb)
    have kB : ∀ b ∈ B, b ∈ A ++ B := fun b hb => List.mem_append.mpr (.inr hb)
    refine ⟨A ++ B, fun u hu => ?_, fun b hb => ?_⟩
    · rcases List.mem_cons.mp hu with e | m
      · rw [e]
        exact a1.mono kA
      · exact (b1 u m).mono kB
    · rcases List.mem_append.mp hb with m | m
      · exact (a2 b m).mono kA
      · exact (b2 b m).mono kB
end
end
/-- what is tracked of an argument's object -/
def hoOf (o : Obj) : Option HO := match o.data with
  | .seq vs _ => if (o.cls == Value.type "list") = true then some (.frz o (.lst (vs.toList.map toV))) else some (.frz o (.tup (vs.toList.map toV)))
  | _ => none
def argH (K : PySem.W.Frag) (h : Heap) (A : List Addr) : Hp := fun b => if b ∈ A then (if (K.lookup b).isNone = true then (h.get? b).bind hoOf else none) else none
/-- nothing is tracked but what is known to the object -/
def OnlyF (H : Hp) : Prop := ∀ b, H b = none ∨ ∃ o u, H b = some (.frz o u)
theorem hoOf_lst (vs : List Value) : hoOf { cls := .type "list", data := .seq vs.toArray } = some (.frz { cls := .type "list", data := .seq vs.toArray } (.lst (vs.map toV))) := by
  show (if (Value.type "list" == Value.type "list") = true then some (HO.frz { cls := .type "list", data := .seq vs.toArray } (.lst (vs.toArray.toList.map toV))) else some (HO.frz { cls := .type "list", data := .seq vs.toArray } (.tup (vs.toArray.toList.map toV)))) = _
  rw [if_pos (beq_self_eq_true _)]
theorem hoOf_tup (vs : List Value) : hoOf { cls := .type "tuple", data := .seq vs.toArray } = some (.frz { cls := .type "tuple", data := .seq vs.toArray } (.tup (vs.map toV))) := by
  show (if (Value.type "tuple" == Value.type "list") = true then some (HO.frz { cls := .type "tuple", data := .seq vs.toArray } (.lst (vs.toArray.toList.map toV))) else some (HO.frz { cls := .type "tuple", data := .seq vs.toArray } (.tup (vs.toArray.toList.map toV)))) = _
  rw [if_neg (by decide)]
section
variable {P : Program} {w : World} {K : PySem.W.Frag} {h : Heap} {A : List Addr}
theorem argH_at {b : Addr} {o : Obj} (hb : b ∈ A) (hk : K.lookup b = none) (e : h.get? b = some o) : argH K h A b = hoOf o := by
  unfold argH
  rw [if_pos hb, hk, if_pos (show (none : Option Obj).isNone = true from rfl), e] <;> rfl
theorem of_argH {b : Addr} {u : HO} (q : argH K h A b = some u) : b ∈ A ∧ K.lookup b = none := by
  unfold argH at q
  by_cases hb : b ∈ A
  · rw [if_pos hb] at q
    cases hk : K.lookup b with
    | none => exact ⟨hb, rfl⟩
    | some o =>
      rw [hk, if_neg (by simp)] at q
      cases q
  · rw [if_neg hb] at q
    cases q
/-- what stands tracked -/
theorem argH_is (ar : ∀ a ∈ A, ArgOb h A a) {b : Addr} {u : HO} (q : argH K h A b = some u) : K.lookup b = none ∧ ∃ vs : List Value, vs.length ≤ sizeLine ∧ (∀ u ∈ vs, OkU A u) ∧
    ((h.get? b = some { cls := .type "list", data := .seq vs.toArray } ∧ u = .frz { cls := .type "list", data := .seq vs.toArray } (.lst (vs.map toV))) ∨
     (h.get? b = some { cls := .type "tuple", data := .seq vs.toArray } ∧ u = .frz { cls := .type "tuple", data := .seq vs.toArray } (.tup (vs.map toV)))) := by
  obtain ⟨hb, hk⟩ := of_argH q
  obtain ⟨vs, h1, h2, h3⟩ := ar b hb
  refine ⟨hk, vs, h1, h2, ?_⟩
  rcases h3 with e | e
  · rw [argH_at hb hk e, hoOf_lst] at q
    exact .inl ⟨e, (Option.some.inj q).symm⟩
  · rw [argH_at hb hk e, hoOf_tup] at q
    exact .inr ⟨e, (Option.some.inj q).symm⟩
theorem argH_only (ar : ∀ a ∈ A, ArgOb h A a) : OnlyF (argH K h A) := fun b => by
  cases q : argH K h A b with
  | none => exact .inl rfl
  | some u =>
    obtain ⟨_, vs, _, _, ⟨_, e⟩ | ⟨_, e⟩⟩ := argH_is ar q
    · exact .inr ⟨_, _, by rw [e]⟩
    · exact .inr ⟨_, _, by rw [e]⟩
theorem argH_ok (ar : ∀ a ∈ A, ArgOb h A a) : HOk P w (argH K h A) h := fun b u q => by
  obtain ⟨_, vs, h1, h2, ⟨e, rfl⟩ | ⟨e, rfl⟩⟩ := argH_is ar q
  · exact ⟨e, by rw [List.length_map]; exact h1, vs, _, vals_toV h2, e⟩
  · exact ⟨e, by rw [List.length_map]; exact h1, vs, vals_toV h2, _, e, rfl, _, rfl⟩
theorem seq_inj {c c' : Value} {vs us : List Value} (e : (some { cls := c, data := .seq vs.toArray } : Option Obj) = some { cls := c', data := .seq us.toArray }) : c = c' ∧ vs = us := by
  have e1 := Option.some.inj e
  have e2 : c = c' := congrArg Obj.cls e1
  have e3 : Data.seq vs.toArray = Data.seq us.toArray := congrArg Obj.data e1
  injection e3 with e4
  refine ⟨e2, ?_⟩
  have e5 := congrArg Array.toList e4
  simpa using e5
/-- a list argument -/
theorem argL (KX : K.In h) (ar : ∀ a ∈ A, ArgOb h A a) {a : Addr} {vs : List Value} (ha : a ∈ A) (e : h.get? a = some { cls := .type "list", data := .seq vs.toArray }) : (∀ u ∈ vs, OkU A u) ∧ SqL K (argH K h A) a (vs.map toV) := by
  obtain ⟨us, h1, h2, h3⟩ := ar a ha
  have hu : us = vs := by
    rcases h3 with q | q
    · rw [e] at q
      exact (seq_inj q).2.symm
    · rw [e] at q
      exact absurd (Value.type.inj (seq_inj q).1) (by decide)
  subst hu
  refine ⟨h2, ?_⟩
  cases hk : K.lookup a with
  | none => exact .inl (.inr ⟨_, by rw [argH_at ha hk e, hoOf_lst]⟩)
  | some o =>
    have e2 := KX a o hk
    rw [e] at e2
    obtain rfl := Option.some.inj e2
    exact .inr ⟨_, us.toArray, _, hk, rfl, rfl, rfl, by rw [List.size_toArray]; exact h1, by simpa using vals_toV h2⟩
theorem argT (KX : K.In h) (ar : ∀ a ∈ A, ArgOb h A a) {a : Addr} {vs : List Value} (ha : a ∈ A) (e : h.get? a = some { cls := .type "tuple", data := .seq vs.toArray }) : (∀ u ∈ vs, OkU A u) ∧ SqT K (argH K h A) a (vs.map toV) := by
  obtain ⟨us, h1, h2, h3⟩ := ar a ha
  have hu : us = vs := by
    rcases h3 with q | q
    · rw [e] at q
      exact absurd (Value.type.inj (seq_inj q).1) (by decide)
    · rw [e] at q
      exact (seq_inj q).2.symm
  subst hu
  refine ⟨h2, ?_⟩
  cases hk : K.lookup a with
  | none => exact .inl (.inr ⟨_, by rw [argH_at ha hk e, hoOf_tup]⟩)
  | some o =>
    have e2 := KX a o hk
    rw [e] at e2
    obtain rfl := Option.some.inj e2
    exact .inr ⟨_, us.toArray, _, hk, rfl, rfl, by rw [List.size_toArray]; exact h1, by simpa using vals_toV h2⟩
mutual
theorem dw_one {Pm : Params} (KX : K.In h) (ar : ∀ a ∈ A, ArgOb h A a) : ∀ (d : WData) (v : Value), Well Pm h v d → plW d = true → OkU A v → Dw K (argH K h A) (toV v) d
  | .none, _, x, _, _ => by
    cases x
    exact .non
  | .bool b, _, x, _, _ => by
    cases x
    exact .bl b
  | .int i, _, x, _, _ => by
    cases x
    exact .int i
  | .str s, _, x, _, _ => by
    cases x
    exact .str s
  | .bytes b, _, x, _, _ => by
    cases x
    have z := Dw.byt (K := K) (H := argH K h A) b.toArray
    exact z
  | .list ds, _, x, p, hu => by
    obtain ⟨a, vs, rfl, ho, hall⟩ := well_list x
    obtain ⟨h2, hs⟩ := argL KX ar hu ho
    exact .lst hs (dw_all KX ar ds _ hall p h2)
  | .tuple ds, _, x, p, hu => by
    obtain ⟨a, vs, rfl, ho, hall⟩ := well_tuple x
    obtain ⟨h2, hs⟩ := argT KX ar hu ho
    exact .tup hs (dw_all KX ar ds _ hall p h2)
  | .float _, _, _, p, _ => Bool.noConfusion (show false = true from p)
  | .dict _, _, _, p, _ => Bool.noConfusion (show false = true from p)
  | .bytearray _, _, _, p, _ => Bool.noConfusion (show false = true from p)
  | .set _, _, _, p, _ => Bool.noConfusion (show false = true from p)
  | .frozenset _, _, _, p, _ => Bool.noConfusion (show false = true from p)
  | .obj _ _, _, _, p, _ => Bool.noConfusion (show false = true from p)
theorem dw_all {Pm : Params} (KX : K.In h) (ar : ∀ a ∈ A, ArgOb h A a) : ∀ (ds : List WData) (vs : List Value), WellAll Pm h vs ds → plWs ds = true → (∀ u ∈ vs, OkU A u) → DwAll K (argH K h A) (vs.map toV) ds
  | [], _, x, _, _ => by
    cases x
    exact .nil
  | d :: ds, _, x, p, hu => by
    obtain ⟨v, vs, rfl, x1, x2⟩ := well_cons x
    have q : plW d = true ∧ plWs ds = true := Bool.and_eq_true_iff.mp p
    exact .cons (dw_one KX ar d v x1 q.1 (hu _ (List.mem_cons_self ..))) (dw_all KX ar ds vs x2 q.2 fun u m => hu u (List.mem_cons_of_mem _ m))
end
end
theorem spec_call {P : Program} {w : World} {K : PySem.W.Frag} {mg mb : Str → Option Value} {CX : CXT} {k : Nat} {fa : Addr} {fd : FuncData} {ps : List Str} {sp : Sp} {s₁ : Shared} {vals : List Value} {ds : List WData} {R : PySem.W.WRecords} {cl : Str → Option Addr} {d0 : WData}
    (KX : K.In s₁.heap) (hns : s₁.heap.Ns mainGlobals mg) (hb : s₁.heap.Ns builtinsNs mb) (hbb : ∀ x : Str, x ≠ "__name__" → mb x = bootBuiltins x) (hlim : s₁.heap.NoLimit) (hg : s₁.gens = #[])
    (hwl : WellAll w.params s₁.heap vals ds) (hpl : plWs ds = true) (hwt : ∀ d ∈ ds, d.weight ≤ 1048576) (hr : Room k callerA)
    (F : ∀ base : Heap, K.In base → base.Ns mainGlobals mg → FnOk P w K mg base CX k fa fd ps sp) (hbind : ∀ (s : Shared) (us : List Value), us.length = ps.length → BindsTo s fd ⟨us, []⟩ (ps.zip us)) (hlen : ds.length = ps.length)
    (hsp : ∀ (H : Hp) (xs : List V), OnlyF H → DwAll K H xs ds → sp xs H (fun v H' => Dw K H' v d0) fun _ _ _ => False)
    (hCX : ∀ H e s', CX [] H s₁ (fun _ _ _ => False) e s' → False) :
    codeAny (model P w) callerA (.call (.ref fa) ⟨vals, []⟩) (fun r s' => ∃ u as, r = .ok (.ret u) ∧ ReadsW R cl s'.heap u d0 as ∧ OldK s₁.heap s'.heap ∧ s'.os = s₁.os ∧ AllBare s'.gens) s₁ := by
  obtain ⟨A, ho, ar⟩ := area_all ds vals hwl hpl hwt
  have hO : OnlyF (argH K s₁.heap A) := argH_only ar
  have hok : HOk P w (argH K s₁.heap A) s₁.heap := argH_ok ar
  have hS := dw_all KX ar ds vals hwl hpl ho
  have hV := vals_toV ho
  have hK : ∀ b u, argH K s₁.heap A b = some u → K.lookup b = none := fun b u q => (argH_is ar q).1
  have noA : ∀ {b : Addr} {o : Obj} {es : Array DictEntry} {ep : Nat}, s₁.heap.get? b = some o → o.data = .dict es ep → argH K s₁.heap A b = none := fun {b o es ep} e d => by
    cases q : argH K s₁.heap A b with
    | none => rfl
    | some u =>
      obtain ⟨_, vs, _, _, ⟨e2, _⟩ | ⟨e2, _⟩⟩ := argH_is ar q
      · rw [e2] at e
        cases e
        have d' : Data.seq vs.toArray _ = Data.dict es ep := d
        cases d'
      · rw [e2] at e
        cases e
        have d' : Data.seq vs.toArray _ = Data.dict es ep := d
        cases d'
  generalize argH K s₁.heap A = H at hO hok hS hK noA
  have base_of : ∀ {b : Addr} {o : Obj}, s₁.heap.get? b = some o → H b = none → (hidT s₁.heap H).get? b = some o := fun e n => hidT_get e n
  have nsK : ∀ {b : Addr} {m : Str → Option Value}, s₁.heap.Ns b m → (hidT s₁.heap H).Ns b m := fun {b m} ⟨o, es, ep, e, d, r⟩ => ⟨o, es, ep, base_of e (noA e d), d, r⟩
  have nK : ∀ b o, K.lookup b = some o → H b = none := fun b o e => by
    cases q : H b with
    | none => rfl
    | some u =>
      rw [hK b u q] at e
      cases e
  have hKb : K.In (hidT s₁.heap H) := fun b o e => base_of (KX b o e) (nK b o e)
  have hM : Mod K mg (hidT s₁.heap H) := ⟨hKb, nsK hns, ⟨mb, nsK hb, hbb⟩, let ⟨mc, h1, h2⟩ := hlim; ⟨mc, nsK h1, h2⟩⟩
  have e0 : Env0 P w K mg (hidT s₁.heap H) callerA [] s₁ H := ⟨rfl, hM, fun b o e => of_hidT e, Nat.le_of_eq (hidT_size _ _), trivial, fun b hb => absurd (show b ∈ ([] : List Addr) from hb) (by simp), hok, .of_eq hg⟩
  have hl : vals.length = ps.length := by rw [wellAll_len hwl]; exact hlen
  refine codeAny_mono ((F _ hKb (nsK hns)).run callerA [] s₁ H ⟨vals, []⟩ vals (vals.map toV) _ _ hr e0 (hbind s₁ vals hl) hV (hsp H _ hO hS)) fun r s' x => ?_
  cases r with
  | error e => exact (hCX H e s' x).elim
  | ok fl =>
    cases fl with
    | next => exact False.elim x
    | brk => exact False.elim x
    | cont => exact False.elim x
    | ret u =>
      obtain ⟨v, H', os, bare, un, hok', r', q⟩ := x
      have kept : ∀ b o, s₁.heap.get? b = some o → s'.heap.get? b = some o := fun b o e => by
        cases q2 : H b with
        | none => exact un.keep b o e q2 (by intro z; exact absurd (show b ∈ ([] : List Addr) from z) (by simp)) (by simp)
        | some u2 =>
          rcases hO b with z | ⟨ob, u3, z⟩
          · rw [q2] at z
            cases z
          · have z2 := un.frzs b ob _ z
            obtain ⟨e1, _⟩ := hok b _ z
            obtain ⟨e2, _⟩ := hok' b _ z2
            rw [e] at e1
            cases e1
            exact e2
      have KX' : K.In s'.heap := fun b o e => kept b o (KX b o e)
      obtain ⟨as, hrd⟩ := Dw.reads (R := R) (cl := cl) hok' KX' d0 v u q r'
      exact ⟨u, as, rfl, hrd, OldK.of_keep kept, os, bare⟩
theorem layable_weight {ds : List WData} (h : WData.layableAll ds = true) : ∀ d ∈ ds, d.weight ≤ 1048576 := fun d hd =>
  (PySem.W.layableW_iff.mp (List.all_eq_true.mp h d hd)).2.2
theorem encAll_len : ∀ (cs : List Codec) (a : Codec.denoteAll cs), (Codec.encAll cs a).length = cs.length
  | [], _ => rfl
  | c :: cs, a => by
    show (Codec.encAll cs a.2).length + 1 = cs.length + 1
    rw [encAll_len cs a.2]
/-- the goal that k_headS leaves (case hc), from the promise of the row's def: whatever the arguments that the codecs let and the row asks for, the def gives what stands for enc (f ..) -/
theorem walk_spec {r : OpenSpec} {k : Nat} {q : Program} {loose : List Str} {XP : (Str → Option Value) → Heap → Prop} {YP : World → Heap → Prop} {d : DefRec} {K : Params → PySem.W.Frag} {CX : World → CXT} {ps : List Str} {sp : World → Sp}
    (hwell : r.wellSaid = true) (hdf : d.params.defaults = []) (hlen : r.args.length = ps.length) (hr : Room k callerA)
    (hY : ∀ (w : World) (h : Heap), YP w h → (K w.params).In h)
    (F : ∀ (w : World) (mg : Str → Option Value) (fa : Addr) (h : Heap), YP w h → (K w.params).In h → h.Ns mainGlobals mg → mg d.name = some (.ref fa) →
      ∃ fd : FuncData, (∀ (s : Shared) (us : List Value), us.length = ps.length → BindsTo s fd ⟨us, []⟩ (ps.zip us)) ∧
        ∀ base : Heap, (K w.params).In base → base.Ns mainGlobals mg → FnOk r.prog w (K w.params) mg base (CX w) k fa fd ps (sp w))
    (hsp : ∀ (w : World) (H : Hp) (xs : List V) (a : Codec.denoteAll r.args), OnlyF H → Codec.withinAll r.args a = true → Codec.app r.args r.asked a = true → DwAll (K w.params) H xs (Codec.encAll r.args a) →
      sp w xs H (fun v H' => Dw (K w.params) H' v (r.ret.enc (Codec.app r.args r.f a))) fun _ _ _ => False)
    (hCX : ∀ (w : World) (H : Hp) (s : Shared) (e : Value) (s' : Shared), CX w [] H s (fun _ _ _ => False) e s' → False) :
    PySem.W.WalkOS q loose XP YP r d [] (fun f vs => PySem.call f vs) := by
  intro w s_0 s₁ mg mb G Y fa o pm cd doc dV kV ho hd hcd hD hmg hg args vals as hpre hlay hrd hwl hlo
  obtain ⟨a, e1, e2⟩ := PySem.W.os_pre_some hpre
  obtain ⟨e3, hwi⟩ := Codec.encAll_of_decAll r.args args a e1
  subst e3
  have KX := hY w _ Y
  obtain ⟨fd, hb, hF⟩ := F w mg fa _ Y KX G.T.g hmg
  refine PySem.W.enter_call (codeAny_mono (spec_call (R := []) (cl := classAt s_0.heap) (d0 := r.ret.enc (Codec.app r.args r.f a)) KX G.T.g G.T.b G.T.builtins G.T.nolimit hg hwl (pl_encAll _ _) (layable_weight hlay) hr hF hb (by rw [encAll_len]; exact hlen)
    (fun H xs hO hS => hsp w H xs a hO hwi e2 hS) fun H e s' => hCX w H s₁ e s') fun r' s' hq => ?_)
  obtain ⟨u, as', rfl, h1, h2, h3, h4⟩ := hq
  exact ⟨.inl ⟨u, _, as', rfl, fun _ => rfl, h1, (OpenSpec.post_iff hwell hwi _ _).mpr rfl, fun z => Bool.noConfusion (show false = true from z)⟩, h2, h3, h4⟩
/-- the same where the promise hangs on the written part alone -/
theorem walk_specK {r : OpenSpec} {k : Nat} {q : Program} {loose : List Str} {XP : (Str → Option Value) → Heap → Prop} {YP : World → Heap → Prop} {d : DefRec} {K : Params → PySem.W.Frag} {CX : CXT} {ps : List Str} {sp : PySem.W.Frag → Sp}
    (hwell : r.wellSaid = true) (hdf : d.params.defaults = []) (hlen : r.args.length = ps.length) (hr : Room k callerA)
    (hY : ∀ (w : World) (h : Heap), YP w h → (K w.params).In h)
    (F : ∀ (w : World) (mg : Str → Option Value) (fa : Addr) (h : Heap), YP w h → (K w.params).In h → h.Ns mainGlobals mg → mg d.name = some (.ref fa) →
      ∃ fd : FuncData, (∀ (s : Shared) (us : List Value), us.length = ps.length → BindsTo s fd ⟨us, []⟩ (ps.zip us)) ∧
        ∀ base : Heap, (K w.params).In base → base.Ns mainGlobals mg → FnOk r.prog w (K w.params) mg base CX k fa fd ps (sp (K w.params)))
    (hsp : ∀ (K : PySem.W.Frag) (H : Hp) (xs : List V) (a : Codec.denoteAll r.args), OnlyF H → Codec.withinAll r.args a = true → Codec.app r.args r.asked a = true → DwAll K H xs (Codec.encAll r.args a) →
      sp K xs H (fun v H' => Dw K H' v (r.ret.enc (Codec.app r.args r.f a))) fun _ _ _ => False)
    (hCX : ∀ (H : Hp) (s : Shared) (e : Value) (s' : Shared), CX [] H s (fun _ _ _ => False) e s' → False) :
    PySem.W.WalkOS q loose XP YP r d [] (fun f vs => PySem.call f vs) :=
  walk_spec (K := K) (CX := fun _ => CX) (sp := fun w => sp (K w.params)) hwell hdf hlen hr hY F (fun w H xs a h1 h2 h3 h4 => hsp (K w.params) H xs a h1 h2 h3 h4) fun _ H s e s' => hCX H s e s'
end L2
-- rests on (row put in by the clerk, for the bench that shows a file only what it spells): KE.SpHead KE.OsShapes
end
set_option Elab.async false
set_option linter.all false
namespace M
open Flags
/-! ### bytes as whole numbers -/
def oU (u : UInt8) : Int := (u.toNat : Int)
def I (b : Bytes) : List Int := b.map oU
theorem oU_inj {a b : UInt8} (h : oU a = oU b) : a = b := by
  unfold oU at h
  exact UInt8.toNat_inj.mp (by omega)
theorem I_inj : ∀ {a b : Bytes}, I a = I b → a = b
  | [], [], _ => rfl
  | [], _ :: _, h => by simp [I] at h
  | _ :: _, [], h => by simp [I] at h
  | x :: a, y :: b, h => by
    have h' : oU x :: I a = oU y :: I b := h
    injection h' with h1 h2
    rw [oU_inj h1, I_inj h2]
theorem I_iff {a b : Bytes} : I a = I b ↔ a = b := ⟨I_inj, fun h => by rw [h]⟩
theorem I_len (b : Bytes) : (I b).length = b.length := by simp [I]
theorem oU_ofNat {n : Int} (h0 : 0 ≤ n) (h1 : n ≤ 255) : oU (UInt8.ofNat n.toNat) = n := by
  unfold oU
  rw [UInt8.toNat_ofNat']
  have : n.toNat % 2 ^ 8 = n.toNat := Nat.mod_eq_of_lt (by omega)
  omega
theorem oU_range (u : UInt8) : 0 ≤ oU u ∧ oU u ≤ 255 := by
  unfold oU
  have := u.toNat_lt
  omega
theorem I_back : ∀ {t : List Int}, (∀ x ∈ t, 0 ≤ x ∧ x ≤ 255) → I (t.map fun (n : Int) => UInt8.ofNat n.toNat) = t
  | [], _ => rfl
  | x :: t, h => by
    have hx := h x (List.mem_cons_self ..)
    show oU (UInt8.ofNat x.toNat) :: I (t.map _) = x :: t
    rw [oU_ofNat hx.1 hx.2, I_back fun y hy => h y (List.mem_cons_of_mem _ hy)]
theorem text_some {t : List Int} (h : ∀ x ∈ t, 0 ≤ x ∧ x ≤ 255) : ∃ b : Bytes, t = I b ∧ FlagBNeutral.text? t = some b := by
  refine ⟨t.map fun (n : Int) => UInt8.ofNat n.toNat, (I_back h).symm, ?_⟩
  unfold FlagBNeutral.text? NeutralIO.bytes
  rw [if_pos]
  rw [List.all_eq_true]
  intro x hx
  have := h x hx
  simp [this.1, this.2]
theorem nats_some : ∀ {t : List Int}, (∀ x ∈ t, 0 ≤ x) → ∃ n : List Nat, t = n.map Int.ofNat ∧ FlagBNeutral.nats? t = some n
  | [], _ => ⟨[], rfl, rfl⟩
  | x :: t, h => by
    have hx := h x (List.mem_cons_self ..)
    obtain ⟨n, e1, e2⟩ := nats_some (t := t) fun y hy => h y (List.mem_cons_of_mem _ hy)
    refine ⟨x.toNat :: n, ?_, ?_⟩
    · rw [List.map_cons, ← e1]
      congr 1
      show x = (x.toNat : Int)
      omega
    · unfold FlagBNeutral.nats? at e2 ⊢
      rw [List.mapM_cons, e2]
      unfold FlagBNeutral.nat?
      rw [if_pos hx]
      rfl
/-! ### pieces -/
def cutI (c : Int) : List Int → List (List Int)
  | [] => [[]]
  | x :: r => if x = c then [] :: cutI c r else match cutI c r with
    | [] => [[x]]
    | w :: l => (x :: w) :: l
theorem cutI_ne (c : Int) : ∀ l, cutI c l ≠ []
  | [] => by simp [cutI]
  | x :: r => by
    unfold cutI
    split
    · simp
    · split <;> simp
theorem cutI_I (c : UInt8) : ∀ b : Bytes, cutI (oU c) (I b) = (cutAt c b).map I
  | [] => rfl
  | x :: b => by
    have ih := cutI_I c b
    show cutI (oU c) (oU x :: I b) = _
    unfold cutI cutAt
    by_cases h : x = c
    · rw [if_pos (by rw [h]), if_pos h, ih]
      rfl
    · rw [if_neg (fun q => h (oU_inj q)), if_neg h, ih]
      cases cutAt c b with
      | nil => rfl
      | cons w l => rfl
def glue (p : List Int) : List (List Int) → List (List Int)
  | [] => [p]
  | w :: l => (p ++ w) :: l
theorem glue_nil {l : List (List Int)} (h : l ≠ []) : glue [] l = l := by
  cases l with
  | nil => exact absurd rfl h
  | cons w l => rfl
/-- a turn of the cutting loop at the mark -/
theorem cut_mark {c : Int} {r : List Int} (p : List Int) : glue p (cutI c (c :: r)) = p :: glue [] (cutI c r) := by
  rw [glue_nil (cutI_ne c r)]
  rw [show cutI c (c :: r) = [] :: cutI c r by show (if c = c then _ else _) = _; rw [if_pos rfl]]
  show (p ++ []) :: _ = _
  rw [List.append_nil]
theorem cut_other {c x : Int} {r : List Int} (p : List Int) (h : ¬ x = c) : glue p (cutI c (x :: r)) = glue (p ++ [x]) (cutI c r) := by
  have e : cutI c (x :: r) = match cutI c r with
    | [] => [[x]]
    | w :: l => (x :: w) :: l := by
    show (if x = c then _ else _) = _
    rw [if_neg h]
  rw [e]
  cases q : cutI c r with
  | nil => exact absurd q (cutI_ne c r)
  | cons w l =>
    show (p ++ x :: w) :: l = (p ++ [x] ++ w) :: l
    rw [List.append_assoc]
    rfl
theorem cut_len (c : Int) : ∀ l, (cutI c l).length ≤ l.length + 1
  | [] => by simp [cutI]
  | x :: r => by
    have ih := cut_len c r
    unfold cutI
    split
    · simp only [List.length_cons]; omega
    · split
      · simp
      · rename_i w l e
        rw [e] at ih
        simp only [List.length_cons] at ih ⊢
        omega
theorem cut_word (c : Int) : ∀ l, ∀ w ∈ cutI c l, w.length ≤ l.length
  | [] => by simp [cutI]
  | x :: r => by
    have ih := cut_word c r
    intro w hw
    unfold cutI at hw
    split at hw
    · rcases List.mem_cons.mp hw with e | hw
      · subst e; simp
      · have := ih w hw; simp only [List.length_cons]; omega
    · split at hw
      · rename_i e
        exact absurd e (cutI_ne c r)
      · rename_i w' l e
        rw [e] at ih
        rcases List.mem_cons.mp hw with e' | hw
        · subst e'
          have := ih w' (List.mem_cons_self ..)
          simp only [List.length_cons]; omega
        · have := ih w (List.mem_cons_of_mem _ hw)
          simp only [List.length_cons]; omega
/-! ### words -/
def NL : List Int := [65, 66, 67, 68, 69, 70, 71, 72, 73, 74, 75, 76, 77, 78, 79, 80, 81, 82, 83, 84, 85, 86, 87, 88, 89, 90, 48, 49, 50, 51, 52, 53, 54, 55, 56, 57]
def HL : List Int := [48, 49, 50, 51, 52, 53, 54, 55, 56, 57, 97, 98, 99, 100, 101, 102]
def wSquare : List Int := [115, 113, 117, 97, 114, 101]
def wTails : List Int := [116, 97, 105, 108, 115]
def wLong : List Int := [108, 111, 110, 103]
def wLocker : List Int := [108, 111, 99, 107, 101, 114]
def wAnswer : List Int := [97, 110, 115, 119, 101, 114]
def wSign : List Int := [115, 105, 103, 110]
def wSame : List Int := [115, 97, 109, 101]
def madeOf (allowed w : List Int) : Bool := w.all fun x => allowed.contains x
def nameOk (w : List Int) : Bool := decide (1 ≤ w.length) && (decide (w.length ≤ 8) && madeOf NL w)
def lookOk (w : List Int) : Bool := decide (w.length = 16) && madeOf HL w
def shapeOk (w : List Int) : Bool := decide (w = wSquare) || (decide (w = wTails) || decide (w = wLong))
def digit (most : Int) (w : List Int) : Int := match w with
  | [x] => if 1 ≤ x - 48 ∧ x - 48 ≤ most then x - 48 else 0
  | _ => 0
theorem byte_cases {p : UInt8 → Bool} (h : ∀ n : Fin 256, p (UInt8.ofNat n.val) = true) (c : UInt8) : p c = true := by
  have := h ⟨c.toNat, c.toNat_lt⟩
  simpa using this
theorem NL_is (c : UInt8) : NL.contains (oU c) = isSign c := by
  have h := byte_cases (p := fun c => NL.contains (oU c) == isSign c) (by decide +kernel) c
  simpa using h
theorem HL_is (c : UInt8) : HL.contains (oU c) = (hexValue c).isSome := by
  have h := byte_cases (p := fun c => HL.contains (oU c) == (hexValue c).isSome) (by decide +kernel) c
  simpa using h
theorem madeOf_I {allowed : List Int} {p : UInt8 → Bool} (h : ∀ c, allowed.contains (oU c) = p c) : ∀ b : Bytes, madeOf allowed (I b) = b.all p
  | [] => rfl
  | x :: b => by
    show (allowed.contains (oU x) && madeOf allowed (I b)) = _
    rw [h, madeOf_I h b, List.all_cons]
theorem nameOk_I (b : Bytes) : nameOk (I b) = isName b := by
  unfold nameOk isName
  rw [I_len, madeOf_I NL_is]
theorem w_I {s : String} {w : List Int} (h : I (ascii s) = w) (b : Bytes) : I b = w ↔ b = ascii s := by rw [← h, I_iff]
theorem square_I : I (ascii "square") = wSquare := by decide +kernel
theorem tails_I : I (ascii "tails") = wTails := by decide +kernel
theorem long_I : I (ascii "long") = wLong := by decide +kernel
theorem locker_I : I (ascii "locker") = wLocker := by decide +kernel
theorem answer_I : I (ascii "answer") = wAnswer := by decide +kernel
theorem sign_I : I (ascii "sign") = wSign := by decide +kernel
theorem same_I : I (ascii "same") = wSame := by decide +kernel
theorem shapeOk_I (b : Bytes) : shapeOk (I b) = (shapeOf b).isSome := by
  unfold shapeOk shapeOf
  rw [decide_eq_decide.mpr (w_I square_I b), decide_eq_decide.mpr (w_I tails_I b), decide_eq_decide.mpr (w_I long_I b)]
  by_cases h1 : b = ascii "square"
  · rw [if_pos h1, decide_eq_true h1]; rfl
  · rw [if_neg h1, decide_eq_false h1]
    by_cases h2 : b = ascii "tails"
    · rw [if_pos h2, decide_eq_true h2]; rfl
    · rw [if_neg h2, decide_eq_false h2]
      by_cases h3 : b = ascii "long"
      · rw [if_pos h3, decide_eq_true h3]; rfl
      · rw [if_neg h3, decide_eq_false h3]; rfl
theorem shape_cases {b : Bytes} {n : Nat} (h : shapeOf b = some n) : (n = 0 ∧ b = ascii "square") ∨ (n = 1 ∧ b = ascii "tails") ∨ (n = 2 ∧ b = ascii "long") := by
  unfold shapeOf at h
  split at h
  · rename_i e; exact .inl ⟨(Option.some.inj h).symm, e⟩
  · split at h
    · rename_i e; exact .inr (.inl ⟨(Option.some.inj h).symm, e⟩)
    · split at h
      · rename_i e; exact .inr (.inr ⟨(Option.some.inj h).symm, e⟩)
      · cases h
theorem shape_inj {a b : Bytes} {n : Nat} (ha : shapeOf a = some n) (hb : shapeOf b = some n) : a = b := by
  rcases shape_cases ha with ⟨h1, h2⟩ | ⟨h1, h2⟩ | ⟨h1, h2⟩ <;> rcases shape_cases hb with ⟨h3, h4⟩ | ⟨h3, h4⟩ | ⟨h3, h4⟩ <;> first
    | exact h2.trans h4.symm
    | exact absurd (h1.symm.trans h3) (by decide)
theorem digit_I (most : Nat) (b : Bytes) : digit (most : Int) (I b) = (((digitOf most b).getD 0 : Nat) : Int) := by
  match b with
  | [] => rfl
  | [c] =>
    show (if 1 ≤ oU c - 48 ∧ oU c - 48 ≤ most then oU c - 48 else 0) = (((if 49 ≤ c.toNat ∧ c.toNat ≤ 48 + most then some (c.toNat - 48) else none).getD 0 : Nat) : Int)
    unfold oU
    by_cases h : 49 ≤ c.toNat ∧ c.toNat ≤ 48 + most
    · rw [if_pos h, if_pos (by omega)]
      show _ = ((c.toNat - 48 : Nat) : Int)
      omega
    · rw [if_neg h, if_neg (by omega)]
      rfl
  | _ :: _ :: _ => rfl
theorem digitOf_range {most n : Nat} {b : Bytes} (h : digitOf most b = some n) : 1 ≤ n ∧ n ≤ most := by
  unfold digitOf at h
  split at h
  · split at h
    · rename_i c hc
      have : _ - 48 = n := Option.some.inj h
      omega
    · cases h
  · cases h
theorem digit_zero {most : Nat} {b : Bytes} : digit (most : Int) (I b) = 0 ↔ digitOf most b = none := by
  rw [digit_I]
  cases e : digitOf most b with
  | none => simp
  | some n =>
    have := digitOf_range e
    simp only [Option.getD_some]
    constructor
    · intro h; omega
    · intro h; cases h
/-! ### looks -/
theorem hex_lt {c : UInt8} {n : Nat} (h : hexValue c = some n) : n < 16 := by
  unfold hexValue at h
  split at h
  · have := Option.some.inj h; omega
  · split at h
    · have := Option.some.inj h; omega
    · cases h
theorem hex_inj {a b : UInt8} {n : Nat} (ha : hexValue a = some n) (hb : hexValue b = some n) : a = b := by
  unfold hexValue at ha hb
  have key : a.toNat = b.toNat := by
    split at ha <;> split at hb
    · have h1 := Option.some.inj ha; have h2 := Option.some.inj hb; omega
    · split at hb
      · have h1 := Option.some.inj ha; have h2 := Option.some.inj hb; omega
      · cases hb
    · split at ha
      · have h1 := Option.some.inj ha; have h2 := Option.some.inj hb; omega
      · cases ha
    · split at ha
      · split at hb
        · have h1 := Option.some.inj ha; have h2 := Option.some.inj hb; omega
        · cases hb
      · cases ha
  exact UInt8.toNat_inj.mp key
theorem mapM_some_len {α β : Type} {f : α → Option β} : ∀ {l : List α} {m : List β}, l.mapM f = some m → m.length = l.length
  | [], m, h => by
    have : some [] = some m := h
    cases this; rfl
  | a :: l, m, h => by
    rw [List.mapM_cons] at h
    cases ha : f a with
    | none => rw [ha] at h; cases h
    | some y =>
      rw [ha] at h
      cases hl : l.mapM f with
      | none => rw [hl] at h; cases h
      | some r =>
        rw [hl] at h
        have e : y :: r = m := Option.some.inj h
        rw [← e, List.length_cons, mapM_some_len hl, List.length_cons]
theorem mapM_hex_lt : ∀ {b : Bytes} {m : List Nat}, b.mapM hexValue = some m → ∀ n ∈ m, n < 16
  | [], m, h => by
    have : some [] = some m := h
    cases this; simp
  | a :: l, m, h => by
    rw [List.mapM_cons] at h
    cases ha : hexValue a with
    | none => rw [ha] at h; cases h
    | some y =>
      rw [ha] at h
      cases hl : l.mapM hexValue with
      | none => rw [hl] at h; cases h
      | some r =>
        rw [hl] at h
        have e : y :: r = m := Option.some.inj h
        intro n hn
        rw [← e] at hn
        rcases List.mem_cons.mp hn with e1 | hn
        · rw [e1]; exact hex_lt ha
        · exact mapM_hex_lt hl n hn
theorem mapM_hex_inj : ∀ {a b : Bytes} {m : List Nat}, a.mapM hexValue = some m → b.mapM hexValue = some m → a = b
  | [], b, m, ha, hb => by
    have : some [] = some m := ha
    cases this
    have := mapM_some_len hb
    cases b with
    | nil => rfl
    | cons _ _ => simp at this
  | x :: a, [], m, ha, hb => by
    have : some [] = some m := hb
    cases this
    have := mapM_some_len ha
    simp at this
  | x :: a, y :: b, m, ha, hb => by
    rw [List.mapM_cons] at ha hb
    cases hx : hexValue x with
    | none => rw [hx] at ha; cases ha
    | some u =>
      cases hy : hexValue y with
      | none => rw [hy] at hb; cases hb
      | some v =>
        rw [hx] at ha
        rw [hy] at hb
        cases hla : a.mapM hexValue with
        | none => rw [hla] at ha; cases ha
        | some r =>
          cases hlb : b.mapM hexValue with
          | none => rw [hlb] at hb; cases hb
          | some q =>
            rw [hla] at ha
            rw [hlb] at hb
            have e1 : u :: r = m := Option.some.inj ha
            have e2 : v :: q = m := Option.some.inj hb
            rw [← e2] at e1
            injection e1 with e3 e4
            rw [hex_inj hx (e3 ▸ hy), mapM_hex_inj hla (e4 ▸ hlb)]
theorem mapM_isSome : ∀ b : Bytes, (b.mapM hexValue).isSome = b.all fun c => (hexValue c).isSome
  | [] => rfl
  | a :: l => by
    rw [List.mapM_cons, List.all_cons, ← mapM_isSome l]
    cases hexValue a with
    | none => rfl
    | some y =>
      cases l.mapM hexValue with
      | none => rfl
      | some r => rfl
/-- a number's base 16 places -/
def val16 : List Nat → Nat
  | [] => 0
  | x :: r => x + 16 * val16 r
theorem val16_inj : ∀ {a b : List Nat}, a.length = b.length → (∀ x ∈ a, x < 16) → (∀ x ∈ b, x < 16) → val16 a = val16 b → a = b
  | [], [], _, _, _, _ => rfl
  | [], _ :: _, h, _, _, _ => by simp at h
  | _ :: _, [], h, _, _, _ => by simp at h
  | x :: a, y :: b, hl, ha, hb, h => by
    have h1 := ha x (List.mem_cons_self ..)
    have h2 := hb y (List.mem_cons_self ..)
    have h' : x + 16 * val16 a = y + 16 * val16 b := h
    have e1 : x = y := by omega
    have e2 : val16 a = val16 b := by omega
    rw [e1, val16_inj (by simpa using hl) (fun z hz => ha z (List.mem_cons_of_mem _ hz)) (fun z hz => hb z (List.mem_cons_of_mem _ hz)) e2]
theorem sum_mul16 {α : Type} (g h : α → Nat) (e : ∀ i, h i = 16 * g i) : ∀ l : List α, (l.map h).sum = 16 * (l.map g).sum
  | [] => rfl
  | x :: l => by
    rw [List.map_cons, List.map_cons, List.sum_cons, List.sum_cons, sum_mul16 g h e l, e]
    omega
theorem val16_sum : ∀ {m : List Nat}, (∀ x ∈ m, x < 16) → ((List.range m.length).map fun (i : Nat) => m.getD i 0 % 16 * 16 ^ i).sum = val16 m
  | [], _ => rfl
  | x :: m, h => by
    have ih := val16_sum (m := m) fun y hy => h y (List.mem_cons_of_mem _ hy)
    have hx := h x (List.mem_cons_self ..)
    rw [List.length_cons, List.range_succ_eq_map, List.map_cons, List.sum_cons, List.map_map]
    rw [sum_mul16 (fun (i : Nat) => m.getD i 0 % 16 * 16 ^ i) _ (fun i => ?_), ih]
    · show x % 16 * 16 ^ 0 + 16 * val16 m = x + 16 * val16 m
      rw [Nat.mod_eq_of_lt hx]
      omega
    · show m.getD i 0 % 16 * 16 ^ (i + 1) = 16 * (m.getD i 0 % 16 * 16 ^ i)
      rw [Nat.pow_succ, ← Nat.mul_assoc, Nat.mul_comm]
theorem lookOf_val {m : List Nat} (hl : m.length = 16) (h : ∀ x ∈ m, x < 16) : lookOf (fun i => m.getD i 0) = val16 m := by
  have e := val16_sum h
  rw [hl] at e
  exact e
theorem look_inj {a b : Bytes} {n : Nat} (ha : lookIn a = some n) (hb : lookIn b = some n) : a = b := by
  unfold lookIn at ha hb
  split at ha
  · cases ha
  · split at hb
    · cases hb
    · rename_i h1 h2
      have h1 : a.length = 16 := by omega
      have h2 : b.length = 16 := by omega
      cases hla : a.mapM hexValue with
      | none => rw [hla] at ha; cases ha
      | some r =>
        cases hlb : b.mapM hexValue with
        | none => rw [hlb] at hb; cases hb
        | some q =>
          rw [hla] at ha
          rw [hlb] at hb
          have e1 : lookOf (fun i => r.getD i 0) = n := Option.some.inj ha
          have e2 : lookOf (fun i => q.getD i 0) = n := Option.some.inj hb
          have l1 := mapM_some_len hla
          have l2 := mapM_some_len hlb
          rw [lookOf_val (by omega) (mapM_hex_lt hla)] at e1
          rw [lookOf_val (by omega) (mapM_hex_lt hlb)] at e2
          have e3 := val16_inj (by omega) (mapM_hex_lt hla) (mapM_hex_lt hlb) (e1.trans e2.symm)
          exact mapM_hex_inj hla (e3 ▸ hlb)
theorem lookOk_I (b : Bytes) : lookOk (I b) = (lookIn b).isSome := by
  unfold lookOk lookIn
  rw [I_len, madeOf_I HL_is, ← mapM_isSome]
  by_cases h : b.length = 16
  · rw [decide_eq_true h, if_neg (fun q => q h), Bool.true_and, Option.isSome_map]
  · rw [decide_eq_false h, if_pos h]
    rfl
end M
set_option Elab.async false
set_option linter.all false
namespace M
open Flags
inductive All2 {α β : Type} (R : α → β → Prop) : List α → List β → Prop
  | nil : All2 R [] []
  | cons {a : α} {b : β} {as : List α} {bs : List β} : R a b → All2 R as bs → All2 R (a :: as) (b :: bs)
section
variable {α β : Type} {R S : α → β → Prop}
theorem All2.len : ∀ {as : List α} {bs : List β}, All2 R as bs → as.length = bs.length
  | _, _, .nil => rfl
  | _, _, .cons _ t => by rw [List.length_cons, List.length_cons, t.len]
theorem All2.imp (h : ∀ a b, R a b → S a b) : ∀ {as : List α} {bs : List β}, All2 R as bs → All2 S as bs
  | _, _, .nil => .nil
  | _, _, .cons r t => .cons (h _ _ r) (t.imp h)
theorem All2.snoc {a : α} {b : β} (r : R a b) : ∀ {as : List α} {bs : List β}, All2 R as bs → All2 R (as ++ [a]) (bs ++ [b])
  | _, _, .nil => .cons r .nil
  | _, _, .cons q t => .cons q (t.snoc r)
theorem All2.at : ∀ {as : List α} {bs : List β} {i : Nat} {a : α}, All2 R as bs → as[i]? = some a → ∃ b, bs[i]? = some b ∧ R a b
  | _, _, _, _, .nil, e => by simp at e
  | _, _, 0, _, .cons r _, e => by
    have e : _ = _ := Option.some.inj e
    subst e
    exact ⟨_, rfl, r⟩
  | _, _, i + 1, _, .cons _ t, e => t.at (i := i) e
theorem All2.at' : ∀ {as : List α} {bs : List β} {i : Nat} {b : β}, All2 R as bs → bs[i]? = some b → ∃ a, as[i]? = some a ∧ R a b
  | _, _, _, _, .nil, e => by simp at e
  | _, _, 0, _, .cons r _, e => by
    have e : _ = _ := Option.some.inj e
    subst e
    exact ⟨_, rfl, r⟩
  | _, _, i + 1, _, .cons _ t, e => t.at' (i := i) e
theorem All2.mem {P : Prop} : ∀ {as : List α} {bs : List β}, All2 R as bs → ∀ a ∈ as, ∃ b ∈ bs, R a b
  | _, _, .nil => fun a h => by cases h
  | _, _, .cons r t => fun a h => by
    rcases List.mem_cons.mp h with e | h
    · subst e; exact ⟨_, List.mem_cons_self .., r⟩
    · obtain ⟨b, hb, q⟩ := t.mem (P := P) a h
      exact ⟨b, List.mem_cons_of_mem _ hb, q⟩
theorem All2.mem' {P : Prop} : ∀ {as : List α} {bs : List β}, All2 R as bs → ∀ b ∈ bs, ∃ a ∈ as, R a b
  | _, _, .nil => fun a h => by cases h
  | _, _, .cons r t => fun a h => by
    rcases List.mem_cons.mp h with e | h
    · subst e; exact ⟨_, List.mem_cons_self .., r⟩
    · obtain ⟨b, hb, q⟩ := t.mem' (P := P) a h
      exact ⟨b, List.mem_cons_of_mem _ hb, q⟩
end
structure KD where
  role : Int
  name : List Int
  back : Int
  copies : Int
  design : List (List Int)
  deriving DecidableEq
def madeKind (role : Int) (name : List Int) (back : Int) (rest : List (List Int)) : Option KD := match rest with
  | [c, s, l] => if digit 8 c = 0 ∨ shapeOk s = false ∨ lookOk l = false then none else some ⟨role, name, back, digit 8 c, [s, l]⟩
  | _ => none
def readKind (words : List (List Int)) : Option KD := match words with
  | [] => none
  | w :: r => if w = wAnswer then madeKind 2 [] 0 r else match r with
    | [] => none
    | n :: q => if w = wSign ∧ nameOk n = true then madeKind 0 n 0 q else if w = wSame ∧ 0 < digit 4 n then madeKind 1 [] (digit 4 n) q else none
def inOrder (ks : List KD) (k : KD) : Bool := match ks.getLast? with
  | none => true
  | some z => if k.role = z.role then (if k.role = 1 then decide (z.back < k.back) else decide (k.role = 0)) else decide (z.role < k.role)
def oneNew (k b : KD) : Bool := !(decide (k.role = 0) && decide (b.name = k.name)) && !decide (b.design = k.design)
def isNew (ks : List KD) (k : KD) : Bool := ks.all (oneNew k)
def fits (ks : List KD) (k : KD) : Bool := if k.role = 0 ∧ 48 ≤ ks.length then false else inOrder ks k && isNew ks k
def readKindsFrom : List KD → List (List Int) → Option (List KD)
  | ks, [] => some ks
  | ks, l :: r => match readKind (cutI 32 l) with
    | none => none
    | some k => if fits ks k = true then readKindsFrom (ks ++ [k]) r else none
def readKinds (lines : List (List Int)) : Option (List KD) := match readKindsFrom [] lines with
  | none => none
  | some [] => none
  | some (k :: r) => if k.role = 0 then some (k :: r) else none
def lockerLine (words : List (List Int)) : Bool := match words with
  | [w, n] => decide (w = wLocker) && nameOk n
  | _ => false
def readLines (lines : List (List Int)) : Option (List KD) := match lines with
  | [] => none
  | w :: r => if lockerLine (cutI 32 w) = true then readKinds r else none
def readLocker (t : List Int) : Option (List KD) := if (cutI 10 t).getLast? = some [] then readLines (cutI 10 t).dropLast else none
/-! ### a kind of the specification and a kind of the program -/
def RR (r : Role) (k : KD) : Prop := match r with
  | .sign n => k.role = 0 ∧ k.name = I n ∧ k.back = 0 ∧ n ≠ []
  | .same j => k.role = 1 ∧ k.name = [] ∧ k.back = (j : Int) ∧ 1 ≤ j ∧ j ≤ 4
  | .answer => k.role = 2 ∧ k.name = [] ∧ k.back = 0
structure KR (x : Kind) (k : KD) : Prop where
  role : RR x.role k
  copies : k.copies = (x.copies : Int) ∧ 1 ≤ x.copies ∧ x.copies ≤ 8
  design : ∃ s l : Bytes, k.design = [I s, I l] ∧ shapeOf s = some x.shape ∧ lookIn l = some x.look
theorem madeKind_none {role : Int} {name : List Int} {back : Int} : ∀ {rest : List (List Int)}, rest.length ≠ 3 → madeKind role name back rest = none
  | [], _ => rfl
  | [_], _ => rfl
  | [_, _], _ => rfl
  | [_, _, _], h => absurd rfl h
  | _ :: _ :: _ :: _ :: _, _ => rfl
/-- the words of copies, shape and look -/
theorem kindOf_made (r : Role) (role : Int) (name : List Int) (back : Int) (c s l : Bytes) (hR : ∀ cp d, RR r ⟨role, name, back, cp, d⟩) :
    match kindOf r c s l, madeKind role name back [I c, I s, I l] with
    | none, none => True
    | some x, some k => KR x k ∧ x.role = r
    | _, _ => False := by
  unfold kindOf
  have e8 : digit 8 (I c) = (((digitOf 8 c).getD 0 : Nat) : Int) := digit_I 8 c
  show match (match digitOf 8 c, shapeOf s, lookIn l with
    | some n, some h, some k => some (⟨r, n, h, k⟩ : Kind)
    | _, _, _ => none), (if digit 8 (I c) = 0 ∨ shapeOk (I s) = false ∨ lookOk (I l) = false then none else some (⟨role, name, back, digit 8 (I c), [I s, I l]⟩ : KD)) with
    | none, none => True
    | some x, some k => KR x k ∧ x.role = r
    | _, _ => False
  rw [shapeOk_I, lookOk_I]
  cases hc : digitOf 8 c with
  | none =>
    have : digit 8 (I c) = 0 := by rw [e8, hc]; rfl
    rw [if_pos (.inl this)]
    trivial
  | some n =>
    have hn := digitOf_range hc
    have e : digit 8 (I c) = (n : Int) := by rw [e8, hc]; rfl
    cases hs : shapeOf s with
    | none =>
      rw [if_pos (.inr (.inl rfl))]
      trivial
    | some h =>
      cases hl : lookIn l with
      | none =>
        rw [if_pos (.inr (.inr rfl))]
        trivial
      | some k =>
        rw [if_neg (by rw [e]; intro q; rcases q with q | q | q; omega; cases q; cases q)]
        exact ⟨⟨hR _ _, ⟨e, hn.1, hn.2⟩, s, l, rfl, hs, hl⟩, rfl⟩
theorem isName_ne {n : Bytes} (h : isName n = true) : n ≠ [] := by
  intro e
  subst e
  revert h
  decide
def Same? (o : Option Kind) (m : Option KD) : Prop := match o, m with
  | none, none => True
  | some x, some k => KR x k
  | _, _ => False
theorem same_none {m : Option KD} (h : m = none) : Same? none m := by rw [h]; trivial
theorem same_of_made {r : Role} {role : Int} {name : List Int} {back : Int} {c s l : Bytes} (hR : ∀ cp d, RR r ⟨role, name, back, cp, d⟩) : Same? (kindOf r c s l) (madeKind role name back [I c, I s, I l]) := by
  have h := kindOf_made r role name back c s l hR
  revert h
  cases kindOf r c s l <;> cases madeKind role name back [I c, I s, I l] <;> intro h
  · trivial
  · exact h
  · exact h
  · exact h.1
theorem aw_ne_sign : ¬ wAnswer = wSign := by decide
theorem aw_ne_same : ¬ wAnswer = wSame := by decide
theorem sw_ne_same : ¬ wSign = wSame := by decide
theorem readKind_words (ws : List Bytes) : Same? (match ws with
  | [w, n, c, s, l] => if w = ascii "sign" ∧ isName n = true then kindOf (.sign n) c s l else if w = ascii "same" then (digitOf 4 n).bind (fun (j : Nat) => kindOf (.same j) c s l) else none
  | [w, c, s, l] => if w = ascii "answer" then kindOf .answer c s l else none
  | _ => none) (readKind (ws.map I)) := by
  have hA := fun w => w_I answer_I w
  have hS := fun w => w_I sign_I w
  have hM := fun w => w_I same_I w
  match ws with
  | [] => trivial
  | [w] =>
    refine same_none ?_
    show (if I w = wAnswer then madeKind 2 [] 0 [] else none) = none
    split <;> rfl
  | [w, n] =>
    refine same_none ?_
    show (if I w = wAnswer then madeKind 2 [] 0 [I n] else if I w = wSign ∧ nameOk (I n) = true then madeKind 0 (I n) 0 [] else if I w = wSame ∧ 0 < digit 4 (I n) then madeKind 1 [] (digit 4 (I n)) [] else none) = none
    split
    · rfl
    · split
      · rfl
      · split <;> rfl
  | [w, n, c] =>
    refine same_none ?_
    show (if I w = wAnswer then madeKind 2 [] 0 [I n, I c] else if I w = wSign ∧ nameOk (I n) = true then madeKind 0 (I n) 0 [I c] else if I w = wSame ∧ 0 < digit 4 (I n) then madeKind 1 [] (digit 4 (I n)) [I c] else none) = none
    split
    · rfl
    · split
      · rfl
      · split <;> rfl
  | [w, c, s, l] =>
    show Same? (if w = ascii "answer" then kindOf .answer c s l else none) (if I w = wAnswer then madeKind 2 [] 0 [I c, I s, I l] else if I w = wSign ∧ nameOk (I c) = true then madeKind 0 (I c) 0 [I s, I l] else if I w = wSame ∧ 0 < digit 4 (I c) then madeKind 1 [] (digit 4 (I c)) [I s, I l] else none)
    by_cases h : w = ascii "answer"
    · rw [if_pos h, if_pos ((hA w).mpr h)]
      exact same_of_made fun _ _ => ⟨rfl, rfl, rfl⟩
    · rw [if_neg h, if_neg (fun q => h ((hA w).mp q))]
      refine same_none ?_
      split
      · rfl
      · split <;> rfl
  | [w, n, c, s, l] =>
    show Same? (if w = ascii "sign" ∧ isName n = true then kindOf (.sign n) c s l else if w = ascii "same" then (digitOf 4 n).bind (fun (j : Nat) => kindOf (.same j) c s l) else none)
      (if I w = wAnswer then madeKind 2 [] 0 [I n, I c, I s, I l] else if I w = wSign ∧ nameOk (I n) = true then madeKind 0 (I n) 0 [I c, I s, I l] else if I w = wSame ∧ 0 < digit 4 (I n) then madeKind 1 [] (digit 4 (I n)) [I c, I s, I l] else none)
    rw [nameOk_I]
    by_cases hans : I w = wAnswer
    · rw [if_pos hans]
      have h1 : ¬ (w = ascii "sign" ∧ isName n = true) := fun q => aw_ne_sign (hans.symm.trans ((hS w).mpr q.1))
      have h2 : ¬ w = ascii "same" := fun q => aw_ne_same (hans.symm.trans ((hM w).mpr q))
      rw [if_neg h1, if_neg h2]
      trivial
    · rw [if_neg hans]
      by_cases h1 : w = ascii "sign" ∧ isName n = true
      · rw [if_pos h1, if_pos ⟨(hS w).mpr h1.1, h1.2⟩]
        exact same_of_made fun _ _ => ⟨rfl, rfl, rfl, isName_ne h1.2⟩
      · rw [if_neg h1, if_neg (show ¬ (I w = wSign ∧ isName n = true) from fun q => h1 ⟨(hS w).mp q.1, q.2⟩)]
        by_cases h2 : w = ascii "same"
        · rw [if_pos h2]
          have e4 : digit 4 (I n) = (((digitOf 4 n).getD 0 : Nat) : Int) := digit_I 4 n
          cases hd : digitOf 4 n with
          | none =>
            have e0 : digit 4 (I n) = 0 := by rw [e4, hd]; rfl
            rw [if_neg (by rw [e0]; intro q; omega)]
            trivial
          | some j =>
            have hj := digitOf_range hd
            have e0 : digit 4 (I n) = (j : Int) := by rw [e4, hd]; rfl
            rw [e0, if_pos ⟨(hM w).mpr h2, by omega⟩]
            exact same_of_made fun _ _ => ⟨rfl, rfl, rfl, hj.1, hj.2⟩
        · rw [if_neg h2, if_neg (fun q => h2 ((hM w).mp q.1))]
          trivial
  | w :: n :: a :: b :: c :: d :: r =>
    refine same_none ?_
    show (if I w = wAnswer then madeKind 2 [] 0 (I n :: I a :: I b :: I c :: I d :: r.map I) else if I w = wSign ∧ nameOk (I n) = true then madeKind 0 (I n) 0 (I a :: I b :: I c :: I d :: r.map I) else if I w = wSame ∧ 0 < digit 4 (I n) then madeKind 1 [] (digit 4 (I n)) (I a :: I b :: I c :: I d :: r.map I) else none) = none
    split
    · rfl
    · split
      · rfl
      · split <;> rfl
theorem kindIn_readKind (line : Bytes) : Same? (kindIn line) (readKind (cutI 32 (I line))) := by
  have e : cutI 32 (I line) = (cutAt 32 line).map I := cutI_I 32 line
  rw [e]
  exact readKind_words (cutAt 32 line)
theorem nameIn_lockerLine (line : Bytes) : (nameIn line).isSome = lockerLine (cutI 32 (I line)) := by
  have e : cutI 32 (I line) = (cutAt 32 line).map I := cutI_I 32 line
  rw [e]
  unfold nameIn
  match cutAt 32 line with
  | [] => rfl
  | [_] => rfl
  | [w, n] =>
    show (if w = ascii "locker" ∧ isName n = true then some n else none).isSome = (decide (I w = wLocker) && nameOk (I n))
    rw [nameOk_I, decide_eq_decide.mpr (w_I locker_I w)]
    by_cases h : w = ascii "locker"
    · cases hn : isName n with
      | true => rw [if_pos ⟨h, rfl⟩, decide_eq_true h]; rfl
      | false => rw [if_neg (fun q => Bool.false_ne_true q.2), decide_eq_true h]; rfl
    · rw [if_neg (fun q => h q.1), decide_eq_false h]; rfl
  | _ :: _ :: _ :: _ => rfl
/-! ### what may stand behind others -/
def Up (a b : KD) : Prop := a.role ≤ b.role ∧ (a.role = 1 → b.role = 1 → a.back < b.back) ∧ (a.role = 2 → b.role = 2 → False)
abbrev Ups (ks : List KD) : Prop := ks.Pairwise Up
theorem role_range {x : Kind} {k : KD} (h : KR x k) : 0 ≤ k.role ∧ k.role ≤ 2 := by
  have r := h.role
  unfold RR at r
  split at r <;> omega
theorem design_iff {x y : Kind} {k b : KD} (h : KR x k) (q : KR y b) : (b.design = k.design) ↔ (y.shape = x.shape ∧ y.look = x.look) := by
  obtain ⟨s, l, e1, e2, e3⟩ := h.design
  obtain ⟨s', l', e1', e2', e3'⟩ := q.design
  rw [e1, e1']
  constructor
  · intro e
    injection e with e4 e5
    injection e5 with e5 _
    have e4 := I_inj e4
    have e5 := I_inj e5
    subst e4 e5
    exact ⟨Option.some.inj (e2'.symm.trans e2), Option.some.inj (e3'.symm.trans e3)⟩
  · rintro ⟨h1, h2⟩
    rw [h1] at e2'
    rw [h2] at e3'
    rw [shape_inj e2' e2, look_inj e3' e3]
theorem ups_snoc {ks : List KD} {k : KD} (h : Ups ks) (hr : ∀ a ∈ ks, 0 ≤ a.role ∧ a.role ≤ 2) (hk : 0 ≤ k.role ∧ k.role ≤ 2) : inOrder ks k = true ↔ ∀ a ∈ ks, Up a k := by
  unfold inOrder
  cases e : ks.getLast? with
  | none =>
    rw [List.getLast?_eq_none_iff] at e
    subst e
    simp
  | some z =>
    obtain ⟨pre, rfl⟩ := List.getLast?_eq_some_iff.mp e
    have hz : z ∈ pre ++ [z] := by simp
    have rz := hr z hz
    have hp : ∀ a ∈ pre, Up a z := fun a ha => (List.pairwise_append.mp h).2.2 a ha z (by simp)
    have key : (∀ a ∈ pre ++ [z], Up a k) ↔ Up z k := by
      constructor
      · intro q; exact q z hz
      · intro q a ha
        rcases List.mem_append.mp ha with ha | ha
        · have u := hp a ha
          unfold Up at u q ⊢
          have ra := hr a (List.mem_append_left _ ha)
          refine ⟨by omega, fun h1 h2 => ?_, fun h1 h2 => ?_⟩
          · have h3 : z.role = 1 := by omega
            have := u.2.1 h1 h3
            have := q.2.1 h3 h2
            omega
          · have h3 : z.role = 2 := by omega
            exact u.2.2 h1 h3
        · rw [List.mem_singleton.mp ha]; exact q
    rw [key]
    unfold Up
    show (if k.role = z.role then (if k.role = 1 then decide (z.back < k.back) else decide (k.role = 0)) else decide (z.role < k.role)) = true ↔ _
    by_cases h1 : k.role = z.role
    · rw [if_pos h1]
      by_cases h2 : k.role = 1
      · rw [if_pos h2, decide_eq_true_eq]
        constructor
        · intro q; exact ⟨by omega, fun _ _ => q, fun a _ => by omega⟩
        · intro q; exact q.2.1 (by omega) h2
      · rw [if_neg h2, decide_eq_true_eq]
        constructor
        · intro q; exact ⟨by omega, fun _ _ => by omega, fun _ _ => by omega⟩
        · intro q
          by_cases h3 : k.role = 2
          · exact (q.2.2 (by omega) h3).elim
          · omega
    · rw [if_neg h1, decide_eq_true_eq]
      constructor
      · intro q; exact ⟨by omega, fun _ _ => by omega, fun _ _ => by omega⟩
      · intro q; have := q.1; omega
theorem any_false {α : Type} {l : List α} {p : α → Bool} : l.any p = false ↔ ∀ a ∈ l, p a = false := by
  rw [List.any_eq_false]
  constructor
  · intro h a ha; have := h a ha; simpa using this
  · intro h a ha; rw [h a ha]; simp
theorem wrong_fits {past : List Kind} {ks : List KD} {x : Kind} {k : KD} (h2 : All2 KR past ks) (hk : KR x k) (hu : Ups ks) : wrongBehind past x = none ↔ fits ks k = true := by
  have rk := role_range hk
  have rks : ∀ a ∈ ks, 0 ≤ a.role ∧ a.role ≤ 2 := fun a ha => by
    obtain ⟨y, _, q⟩ := h2.mem' (P := True) a ha
    exact role_range q
  have hlen := h2.len
  have hord := ups_snoc hu rks rk
  -- the specification's tests as facts about the program's kinds
  have d4 : (past.any fun (y : Kind) => y.shape == x.shape && y.look == x.look) = false ↔ ∀ a ∈ ks, ¬ a.design = k.design := by
    rw [any_false]
    constructor
    · intro q a ha e
      obtain ⟨y, hy, r⟩ := h2.mem' (P := True) a ha
      have := q y hy
      obtain ⟨s1, s2⟩ := (design_iff hk r).mp e
      rw [s1, s2] at this
      simp at this
    · intro q y hy
      obtain ⟨a, ha, r⟩ := h2.mem (P := True) y hy
      have := q a ha
      rw [design_iff hk r] at this
      rw [Bool.eq_false_iff]
      intro z
      rw [Bool.and_eq_true, beq_iff_eq, beq_iff_eq] at z
      exact this z
  have hfits : fits ks k = true ↔ (¬ (k.role = 0 ∧ 48 ≤ ks.length)) ∧ (∀ a ∈ ks, Up a k) ∧ (∀ a ∈ ks, ¬ (k.role = 0 ∧ a.name = k.name)) ∧ ∀ a ∈ ks, ¬ a.design = k.design := by
    unfold fits
    by_cases c : k.role = 0 ∧ 48 ≤ ks.length
    · rw [if_pos c]
      constructor
      · intro q; cases q
      · intro q; exact absurd c q.1
    · rw [if_neg c, Bool.and_eq_true, hord]
      unfold isNew
      rw [List.all_eq_true]
      unfold oneNew
      simp only [Bool.and_eq_true, Bool.not_eq_true', Bool.and_eq_false_iff, decide_eq_false_iff_not]
      constructor
      · rintro ⟨q1, q2⟩
        refine ⟨c, q1, fun a ha z => ?_, fun a ha => (q2 a ha).2⟩
        rcases (q2 a ha).1 with w | w
        · exact w z.1
        · exact w z.2
      · rintro ⟨_, q1, q2, q3⟩
        refine ⟨q1, fun a ha => ⟨?_, q3 a ha⟩⟩
        have := q2 a ha
        by_cases c0 : k.role = 0
        · exact .inr fun z => this ⟨c0, z⟩
        · exact .inl c0
  rw [hfits]
  have back : ∀ a ∈ ks, ∃ y ∈ past, KR y a := fun a ha => h2.mem' (P := True) a ha
  have forth : ∀ y ∈ past, ∃ a ∈ ks, KR y a := fun y hy => h2.mem (P := True) y hy
  obtain ⟨xr, xc, xs, xl⟩ := x
  have hr : RR xr k := hk.role
  unfold wrongBehind
  cases xr with
  | sign n =>
    obtain ⟨k0, kn, kb, nn⟩ := (show k.role = 0 ∧ k.name = I n ∧ k.back = 0 ∧ n ≠ [] from hr)
    have d1 : (past.any fun (y : Kind) => !y.isSign) = false ↔ ∀ a ∈ ks, Up a k := by
      rw [any_false]
      constructor
      · intro q a ha
        obtain ⟨⟨yr, yc, ys, yl⟩, hy, r⟩ := back a ha
        have q := q _ hy
        have rr : RR yr a := r.role
        cases yr with
        | sign m =>
          have r0 : a.role = 0 := rr.1
          exact ⟨by omega, fun z => by omega, fun z => by omega⟩
        | same j => exact absurd (show true = false from q) (by decide)
        | answer => exact absurd (show true = false from q) (by decide)
      · intro q y hy
        obtain ⟨a, ha, r⟩ := forth y hy
        have u := (q a ha).1
        obtain ⟨yr, yc, ys, yl⟩ := y
        have rr : RR yr a := r.role
        cases yr with
        | sign m => rfl
        | same j => have : a.role = 1 := rr.1; omega
        | answer => have : a.role = 2 := rr.1; omega
    have d2 : (past.any fun (y : Kind) => y.role == Role.sign n) = false ↔ ∀ a ∈ ks, ¬ (k.role = 0 ∧ a.name = k.name) := by
      rw [any_false]
      constructor
      · intro q a ha z
        obtain ⟨⟨yr, yc, ys, yl⟩, hy, r⟩ := back a ha
        have q : (yr == Role.sign n) = false := q _ hy
        have rr : RR yr a := r.role
        have zn : a.name = I n := z.2.trans kn
        cases yr with
        | sign m =>
          have e : I m = I n := rr.2.1.symm.trans zn
          rw [I_inj e] at q
          simp at q
        | same j =>
          have e : ([] : List Int) = I n := rr.2.1.symm.trans zn
          cases n with
          | nil => exact nn rfl
          | cons _ _ => simp [I] at e
        | answer =>
          have e : ([] : List Int) = I n := rr.2.1.symm.trans zn
          cases n with
          | nil => exact nn rfl
          | cons _ _ => simp [I] at e
      · intro q y hy
        obtain ⟨a, ha, r⟩ := forth y hy
        have u := q a ha
        obtain ⟨yr, yc, ys, yl⟩ := y
        have rr : RR yr a := r.role
        show (yr == Role.sign n) = false
        rw [beq_eq_false_iff_ne]
        intro e
        subst e
        exact u ⟨k0, rr.2.1.trans kn.symm⟩
    show (if (past.any fun (y : Kind) => !y.isSign) = true then some 1 else if (past.any fun (y : Kind) => y.role == Role.sign n) = true then some 2 else if (true && decide (SIGNS ≤ past.length)) = true then some 3 else if (past.any fun (y : Kind) => y.shape == xs && y.look == xl) = true then some 4 else none) = none ↔ _
    rw [← d1, ← d2, ← d4]
    have e48 : SIGNS ≤ past.length ↔ 48 ≤ ks.length := by rw [hlen]; rfl
    cases (past.any fun (y : Kind) => !y.isSign) <;> cases (past.any fun (y : Kind) => y.role == Role.sign n) <;> cases (past.any fun (y : Kind) => y.shape == xs && y.look == xl) <;> simp [e48, k0] <;> (try (split <;> simp))
  | same j =>
    obtain ⟨k1, kn, kb, j1, j4⟩ := (show k.role = 1 ∧ k.name = [] ∧ k.back = (j : Int) ∧ 1 ≤ j ∧ j ≤ 4 from hr)
    have d12 : ((past.any fun (y : Kind) => y.role == Role.answer) = false ∧ (past.any fun (y : Kind) => match y.role with
      | .same i => decide (j ≤ i)
      | _ => false) = false) ↔ ∀ a ∈ ks, Up a k := by
      rw [any_false, any_false]
      constructor
      · rintro ⟨q1, q2⟩ a ha
        obtain ⟨⟨yr, yc, ys, yl⟩, hy, r⟩ := back a ha
        have q1 : (yr == Role.answer) = false := q1 _ hy
        have q2 := q2 _ hy
        have rr : RR yr a := r.role
        cases yr with
        | sign m =>
          have r0 : a.role = 0 := rr.1
          exact ⟨by omega, fun z => by omega, fun z => by omega⟩
        | same i =>
          have r0 : a.role = 1 := rr.1
          have rb : a.back = (i : Int) := rr.2.2.1
          have q2 : decide (j ≤ i) = false := q2
          rw [decide_eq_false_iff_not] at q2
          exact ⟨by omega, fun _ _ => by omega, fun z => by omega⟩
        | answer => exact absurd q1 (by decide)
      · intro q
        refine ⟨fun y hy => ?_, fun y hy => ?_⟩
        · obtain ⟨a, ha, r⟩ := forth y hy
          have u := q a ha
          obtain ⟨yr, yc, ys, yl⟩ := y
          have rr : RR yr a := r.role
          cases yr with
          | sign m => rfl
          | same i => rfl
          | answer =>
            have r0 : a.role = 2 := rr.1
            have := u.1
            omega
        · obtain ⟨a, ha, r⟩ := forth y hy
          have u := q a ha
          obtain ⟨yr, yc, ys, yl⟩ := y
          have rr : RR yr a := r.role
          cases yr with
          | sign m => rfl
          | same i =>
            have r0 : a.role = 1 := rr.1
            have rb : a.back = (i : Int) := rr.2.2.1
            have := u.2.1 r0 k1
            show decide (j ≤ i) = false
            rw [decide_eq_false_iff_not]
            omega
          | answer => rfl
    show (if (past.any fun (y : Kind) => y.role == Role.answer) = true then some 1 else if (past.any fun (y : Kind) => match y.role with
      | .same i => decide (j ≤ i)
      | _ => false) = true then some 2 else if (false && decide (SIGNS ≤ past.length)) = true then some 3 else if (past.any fun (y : Kind) => y.shape == xs && y.look == xl) = true then some 4 else none) = none ↔ _
    rw [← d12, ← d4]
    have n0 : ¬ k.role = 0 := by omega
    have d3 : ∀ a ∈ ks, ¬ (k.role = 0 ∧ a.name = k.name) := fun a _ z => n0 z.1
    cases (past.any fun (y : Kind) => y.role == Role.answer) <;> cases (past.any fun (y : Kind) => match y.role with
      | .same i => decide (j ≤ i)
      | _ => false) <;> cases (past.any fun (y : Kind) => y.shape == xs && y.look == xl) <;> simp [n0]
  | answer =>
    obtain ⟨k2, kn, kb⟩ := (show k.role = 2 ∧ k.name = [] ∧ k.back = 0 from hr)
    have d1 : (past.any fun (y : Kind) => y.role == Role.answer) = false ↔ ∀ a ∈ ks, Up a k := by
      rw [any_false]
      constructor
      · intro q1 a ha
        obtain ⟨⟨yr, yc, ys, yl⟩, hy, r⟩ := back a ha
        have q1 : (yr == Role.answer) = false := q1 _ hy
        have rr : RR yr a := r.role
        cases yr with
        | sign m =>
          have r0 : a.role = 0 := rr.1
          exact ⟨by omega, fun z => by omega, fun z => by omega⟩
        | same i =>
          have r0 : a.role = 1 := rr.1
          exact ⟨by omega, fun _ _ => by omega, fun z => by omega⟩
        | answer => exact absurd q1 (by decide)
      · intro q y hy
        obtain ⟨a, ha, r⟩ := forth y hy
        have u := q a ha
        obtain ⟨yr, yc, ys, yl⟩ := y
        have rr : RR yr a := r.role
        cases yr with
        | sign m => rfl
        | same i => rfl
        | answer =>
          have r0 : a.role = 2 := rr.1
          exact (u.2.2 r0 k2).elim
    show (if (past.any fun (y : Kind) => y.role == Role.answer) = true then some 1 else if false = true then some 2 else if (false && decide (SIGNS ≤ past.length)) = true then some 3 else if (past.any fun (y : Kind) => y.shape == xs && y.look == xl) = true then some 4 else none) = none ↔ _
    rw [← d1, ← d4]
    have n0 : ¬ k.role = 0 := by omega
    cases (past.any fun (y : Kind) => y.role == Role.answer) <;> cases (past.any fun (y : Kind) => y.shape == xs && y.look == xl) <;> simp [n0]
theorem fits_up {past : List Kind} {ks : List KD} {x : Kind} {k : KD} (h2 : All2 KR past ks) (hk : KR x k) (hu : Ups ks) (hf : fits ks k = true) : Ups (ks ++ [k]) := by
  have rks : ∀ a ∈ ks, 0 ≤ a.role ∧ a.role ≤ 2 := fun a ha => by
    obtain ⟨y, _, q⟩ := h2.mem' (P := True) a ha
    exact role_range q
  unfold fits at hf
  split at hf
  · cases hf
  · rw [Bool.and_eq_true] at hf
    have := (ups_snoc hu rks (role_range hk)).mp hf.1
    exact List.pairwise_append.mpr ⟨hu, List.pairwise_singleton _ _, fun a ha b hb => by rw [List.mem_singleton.mp hb]; exact this a ha⟩
/-! ### a locker's text -/
def JR (r : Except Fault (List Kind)) (m : Option (List KD)) : Prop := match r, m with
  | .error _, none => True
  | .ok l, some ks => All2 KR l ks ∧ Ups ks
  | _, _ => False
def ended (m : Option (List KD)) : Option (List KD) := match m with
  | none => none
  | some [] => none
  | some (k :: r) => if k.role = 0 then some (k :: r) else none
theorem judge_read : ∀ (ls : List Bytes) (i : Nat) (past : List Kind) (ks : List KD) (w : Bytes), All2 KR past ks → Ups ks →
    JR (judgeLines i past (ls ++ [w])) (if w = [] then ended (readKindsFrom ks (ls.map I)) else none)
  | [], i, past, ks, w, h2, hu => by
    show JR (if w ≠ [] ∨ past.all (fun (k : Kind) => !k.isSign) = true then .error (1, i) else .ok past) _
    by_cases hw : w = []
    · rw [if_pos hw]
      show JR _ (ended (some ks))
      cases h2 with
      | nil =>
        rw [if_pos (.inr rfl)]
        trivial
      | @cons y k past ks r t =>
        show JR _ (if k.role = 0 then some (k :: ks) else none)
        by_cases k0 : k.role = 0
        · rw [if_pos k0, if_neg]
          · exact ⟨.cons r t, hu⟩
          · rintro (q | q)
            · exact q hw
            · rw [List.all_cons, Bool.and_eq_true] at q
              have rr := r.role
              obtain ⟨yr, yc, ys, yl⟩ := y
              cases yr with
              | sign n => exact absurd (show false = true from q.1) (by decide)
              | same j => have : k.role = 1 := rr.1; omega
              | answer => have : k.role = 2 := rr.1; omega
        · rw [if_neg k0, if_pos]
          · trivial
          · refine .inr (List.all_eq_true.mpr fun z hz => ?_)
            obtain ⟨a, ha, q⟩ := (All2.cons r t).mem (P := True) z hz
            have ra : k.role ≤ a.role := by
              rcases List.mem_cons.mp ha with e | ha
              · rw [e]; exact Int.le_refl _
              · exact ((List.pairwise_cons.mp hu).1 a ha).1
            have rk := role_range r
            obtain ⟨zr, zc, zs, zl⟩ := z
            have rr : RR zr a := q.role
            cases zr with
            | sign n => have : a.role = 0 := rr.1; omega
            | same j => rfl
            | answer => rfl
    · rw [if_neg hw, if_pos (.inl hw)]
      trivial
  | l :: ls, i, past, ks, w, h2, hu => by
    have e : judgeLines i past (l :: ls ++ [w]) = match kindIn l with
      | none => .error (1, i)
      | some x => match wrongBehind past x with
        | some e => .error (e, i)
        | none => judgeLines (i + 1) (past ++ [x]) (ls ++ [w]) := by
      cases ls with
      | nil => rfl
      | cons a r => rfl
    rw [e]
    have e2 : readKindsFrom ks ((l :: ls).map I) = match readKind (cutI 32 (I l)) with
      | none => none
      | some k => if fits ks k = true then readKindsFrom (ks ++ [k]) (ls.map I) else none := rfl
    rw [e2]
    have hs := kindIn_readKind l
    cases hk : kindIn l with
    | none =>
      rw [hk] at hs
      cases hm : readKind (cutI 32 (I l)) with
      | none =>
        show JR (.error (1, i)) (if w = [] then none else none)
        rw [ite_self]
        trivial
      | some k => rw [hm] at hs; exact hs.elim
    | some x =>
      rw [hk] at hs
      cases hm : readKind (cutI 32 (I l)) with
      | none => rw [hm] at hs; exact hs.elim
      | some k =>
        rw [hm] at hs
        have hs : KR x k := hs
        have wf := wrong_fits h2 hs hu
        cases hf : fits ks k with
        | true =>
          have hn := wf.mpr hf
          show JR (match wrongBehind past x with
            | some e => .error (e, i)
            | none => judgeLines (i + 1) (past ++ [x]) (ls ++ [w])) (if w = [] then ended (if fits ks k = true then readKindsFrom (ks ++ [k]) (ls.map I) else none) else none)
          rw [hn, if_pos hf]
          exact judge_read ls (i + 1) (past ++ [x]) (ks ++ [k]) w (h2.snoc hs) (fits_up h2 hs hu hf)
        | false =>
          show JR (match wrongBehind past x with
            | some e => .error (e, i)
            | none => judgeLines (i + 1) (past ++ [x]) (ls ++ [w])) (if w = [] then ended (if fits ks k = true then readKindsFrom (ks ++ [k]) (ls.map I) else none) else none)
          cases hn : wrongBehind past x with
          | none => rw [wf.mp hn] at hf; cases hf
          | some e =>
            rw [if_neg (show ¬ fits ks k = true by rw [hf]; decide)]
            show JR (.error (e, i)) (if w = [] then none else none)
            rw [ite_self]
            trivial
theorem ended_is (lines : List (List Int)) : ended (readKindsFrom [] lines) = readKinds lines := rfl
def LR (r : Except Fault Locker) (m : Option (List KD)) : Prop := match r, m with
  | .error _, none => True
  | .ok L, some ks => All2 KR L.kinds ks ∧ Ups ks
  | _, _ => False
theorem judge_readLocker (b : Bytes) : LR (judge b) (readLocker (I b)) := by
  have e : cutI 10 (I b) = (cutAt 10 b).map I := cutI_I 10 b
  unfold judge readLocker
  rw [e]
  match h : cutAt 10 b with
  | [] =>
    exact absurd (by rw [e, h]; rfl) (cutI_ne 10 (I b))
  | [w] =>
    show LR (.error (1, 0)) (if some (I w) = some [] then none else none)
    rw [ite_self]
    trivial
  | w :: x :: r =>
    obtain ⟨ls, z, hz⟩ : ∃ ls z, x :: r = ls ++ [z] := ⟨(x :: r).dropLast, (x :: r).getLast (by simp), (List.dropLast_concat_getLast (by simp)).symm⟩
    show LR (match nameIn w with
      | some n => (judgeLines 1 [] (x :: r)).map fun (l : List Kind) => (⟨n, l⟩ : Locker)
      | none => .error (1, 0)) (if (I w :: (x :: r).map I).getLast? = some [] then readLines (I w :: (x :: r).map I).dropLast else none)
    rw [hz]
    have e1 : (I w :: (ls ++ [z]).map I).getLast? = some (I z) := by
      rw [List.map_append, ← List.cons_append]
      exact List.getLast?_concat
    have e2 : (I w :: (ls ++ [z]).map I).dropLast = I w :: ls.map I := by
      rw [List.map_append, ← List.cons_append]
      exact List.dropLast_concat
    rw [e1, e2]
    have hn := nameIn_lockerLine w
    show LR _ (if some (I z) = some [] then (if lockerLine (cutI 32 (I w)) = true then readKinds (ls.map I) else none) else none)
    have ez : some (I z) = some [] ↔ z = [] := by
      constructor
      · intro q
        cases z with
        | nil => rfl
        | cons _ _ => have := Option.some.inj q; simp [I] at this
      · intro q; rw [q]; rfl
    cases hw : nameIn w with
    | none =>
      rw [hw] at hn
      have hn : lockerLine (cutI 32 (I w)) = false := hn.symm
      rw [hn, if_neg Bool.false_ne_true, ite_self]
      trivial
    | some n =>
      rw [hw] at hn
      have hn : lockerLine (cutI 32 (I w)) = true := hn.symm
      rw [hn, if_pos rfl]
      have hj := judge_read ls 1 [] [] z .nil List.Pairwise.nil
      rw [ended_is] at hj
      have e3 : (if some (I z) = some [] then readKinds (ls.map I) else none) = (if z = [] then readKinds (ls.map I) else none) := by
        by_cases q : z = []
        · rw [if_pos q, if_pos (ez.mpr q)]
        · rw [if_neg q, if_neg (fun y => q (ez.mp y))]
      rw [e3]
      revert hj
      generalize (if z = [] then readKinds (ls.map I) else none) = m
      cases judgeLines 1 [] (ls ++ [z]) with
      | error f =>
        cases m with
        | none => intro _; trivial
        | some ks => intro q; exact q
      | ok l =>
        cases m with
        | none => intro q; exact q
        | some ks => intro q; exact q
end M
set_option Elab.async false
set_option linter.all false
namespace M
open Flags
abbrev Z (l : List Nat) : List Int := l.map Int.ofNat
def unknownAt (n : Nat) (h : List Int) : Option Nat := h.findIdx? fun f => decide ((n : Int) ≤ f)
def meantFrom (ks : List KD) : List Int → List Int → List Int
  | row, [] => row
  | row, f :: r => match ks[f.toNat]? with
    | none => row
    | some k => if k.role = 0 then meantFrom ks (row ++ [f]) r
      else if k.role = 1 ∧ k.back ≤ row.length then meantFrom ks (row ++ [row.getD (k.back - 1).toNat 0]) r else row
def lackAt (ks : List KD) (h : List Int) (i : Nat) : Bool := match h[i]? with
  | none => false
  | some f => match ks[f.toNat]? with
    | none => false
    | some k => decide (k.copies < ((h.take (i + 1)).count f : Nat))
def lackingAt (ks : List KD) (h : List Int) : Option Nat := (List.range h.length).find? (lackAt ks h)
def meansIn (ks : List KD) (h : List Int) : List Int :=
  if h.length = 0 ∨ 8 < h.length then [-1]
  else match unknownAt ks.length h with
    | some i => [-4, (i : Int)]
    | none => if (meantFrom ks [] h).length < h.length then [-9, ((meantFrom ks [] h).length : Int)]
      else match lackingAt ks h with
        | some i => [-3, (i : Int)]
        | none => ((meantFrom ks [] h).length : Int) :: meantFrom ks [] h
def means (t h : List Int) : List Int := if 65536 < t.length then [-2] else match readLocker t with
  | none => [-6]
  | some ks => meansIn ks h
theorem find_same {n : Nat} {p q : Nat → Bool} (h1 : ∀ i, i < n → q i = true → p i = true) (h2 : ∀ i, i < n → p i = true → (∀ j, j < i → p j = false) → q i = true) : (List.range n).find? p = (List.range n).find? q := by
  cases e : (List.range n).find? p with
  | none =>
    rw [List.find?_range_eq_none] at e
    symm
    rw [List.find?_range_eq_none]
    intro i hi
    cases hq : q i with
    | false => rfl
    | true => have := e i hi; rw [h1 i hi hq] at this; exact absurd this (by decide)
  | some i =>
    rw [List.find?_range_eq_some] at e
    obtain ⟨e1, e2, e3⟩ := e
    symm
    rw [List.find?_range_eq_some]
    have hi := List.mem_range.mp e2
    refine ⟨h2 i hi e1 (fun j hj => by have := e3 j hj; simpa using this), e2, fun j hj => ?_⟩
    cases hq : q j with
    | false => rfl
    | true => have := e3 j hj; rw [h1 j (by omega) hq] at this; exact absurd this (by decide)
section
variable {L : Locker} {ks : List KD} (h2 : All2 KR L.kinds ks)
include h2
theorem role_at {f : Nat} {k : KD} (h : ks[f]? = some k) : ∃ x, L.kinds[f]? = some x ∧ KR x k := h2.at' h
theorem means_some : ∀ (rest : Hoist) (above : Row) (r : Row), L.meansFrom above rest = some r → meantFrom ks (Z above) (Z rest) = Z r ∧ r.length = above.length + rest.length
  | [], above, r, h => by
    have e : above = r := Option.some.inj h
    subst e
    exact ⟨rfl, rfl⟩
  | f :: rest, above, r, h => by
    have h : (match (L.kinds[f]?).map Kind.role with
      | some (.sign _) => L.meansFrom (above ++ [f]) rest
      | some (.same k) => (match above[k - 1]? with
        | some s => L.meansFrom (above ++ [s]) rest
        | none => none)
      | _ => none) = some r := h
    cases hx : L.kinds[f]? with
    | none => rw [hx] at h; cases h
    | some x =>
      obtain ⟨k, hk, kr⟩ := h2.at hx
      rw [hx] at h
      have e : meantFrom ks (Z above) (Z (f :: rest)) = if k.role = 0 then meantFrom ks (Z above ++ [Int.ofNat f]) (Z rest) else if k.role = 1 ∧ k.back ≤ (Z above).length then meantFrom ks (Z above ++ [(Z above).getD (k.back - 1).toNat 0]) (Z rest) else Z above := by
        show (match ks[(Int.ofNat f).toNat]? with
          | none => Z above
          | some k => _) = _
        rw [show (Int.ofNat f).toNat = f from rfl, hk]
      rw [e]
      obtain ⟨xr, xc, xs, xl⟩ := x
      have rr : RR xr k := kr.role
      cases xr with
      | sign n =>
        have k0 : k.role = 0 := rr.1
        rw [if_pos k0]
        obtain ⟨i1, i2⟩ := means_some rest (above ++ [f]) r h
        have ez : Z (above ++ [f]) = Z above ++ [Int.ofNat f] := List.map_append
        rw [ez] at i1
        refine ⟨i1, ?_⟩
        rw [i2, List.length_append, List.length_singleton, List.length_cons]
        omega
      | same j =>
        have k1 : k.role = 1 := rr.1
        have kb : k.back = (j : Int) := rr.2.2.1
        have j1 : 1 ≤ j := rr.2.2.2.1
        have h : (match above[j - 1]? with
          | some s => L.meansFrom (above ++ [s]) rest
          | none => none) = some r := h
        cases hs : above[j - 1]? with
        | none => rw [hs] at h; cases h
        | some s =>
          rw [hs] at h
          have hl := (List.getElem?_eq_some_iff.mp hs).1
          obtain ⟨i1, i2⟩ := means_some rest (above ++ [s]) r h
          rw [if_neg (by omega), if_pos ⟨k1, by rw [kb, List.length_map]; omega⟩]
          have ej : (k.back - 1).toNat = j - 1 := by omega
          have es : (Z above).getD (k.back - 1).toNat 0 = Int.ofNat s := by
            rw [ej, List.getD_eq_getElem?_getD, List.getElem?_map, hs]
            rfl
          have ez : Z (above ++ [s]) = Z above ++ [Int.ofNat s] := List.map_append
          rw [ez] at i1
          rw [es]
          refine ⟨i1, ?_⟩
          rw [i2, List.length_append, List.length_singleton, List.length_cons]
          omega
      | answer => cases h
theorem means_none : ∀ (rest : Hoist) (above : Row), L.meansFrom above rest = none → ∃ j, j < rest.length ∧ (meantFrom ks (Z above) (Z rest)).length = above.length + j ∧ L.meansFrom above (rest.take (j + 1)) = none ∧ ∀ i, i ≤ j → L.meansFrom above (rest.take i) ≠ none
  | [], above, h => by cases h
  | f :: rest, above, h => by
    have h : (match (L.kinds[f]?).map Kind.role with
      | some (.sign _) => L.meansFrom (above ++ [f]) rest
      | some (.same k) => (match above[k - 1]? with
        | some s => L.meansFrom (above ++ [s]) rest
        | none => none)
      | _ => none) = none := h
    have e0 : meantFrom ks (Z above) (Z (f :: rest)) = (match ks[f]? with
          | none => Z above
          | some k => if k.role = 0 then meantFrom ks (Z above ++ [Int.ofNat f]) (Z rest) else if k.role = 1 ∧ k.back ≤ (Z above).length then meantFrom ks (Z above ++ [(Z above).getD (k.back - 1).toNat 0]) (Z rest) else Z above) := rfl
    rw [e0]
    have first : ∀ i, i ≤ 0 → L.meansFrom above ((f :: rest).take i) ≠ none := fun i hi => by
      have : i = 0 := by omega
      subst this
      intro q; cases q
    -- behind a flag that means a sign
    have go : ∀ s : Nat, (∀ r : Hoist, L.meansFrom above (f :: r) = L.meansFrom (above ++ [s]) r) → L.meansFrom (above ++ [s]) rest = none →
        ∃ j, j < (f :: rest).length ∧ (meantFrom ks (Z above ++ [Int.ofNat s]) (Z rest)).length = above.length + j ∧ L.meansFrom above ((f :: rest).take (j + 1)) = none ∧ ∀ i, i ≤ j → L.meansFrom above ((f :: rest).take i) ≠ none := by
      intro s hs hn
      obtain ⟨j, j1, j2, j3, j4⟩ := means_none rest (above ++ [s]) hn
      have ez : Z (above ++ [s]) = Z above ++ [Int.ofNat s] := List.map_append
      rw [ez] at j2
      refine ⟨j + 1, by rw [List.length_cons]; omega, ?_, ?_, fun i hi => ?_⟩
      · rw [j2, List.length_append, List.length_singleton]; omega
      · rw [List.take_succ_cons, hs]; exact j3
      · cases i with
        | zero => exact first 0 (Nat.le_refl _)
        | succ i => rw [List.take_succ_cons, hs]; exact j4 i (by omega)
    -- at a flag that means nothing
    have stop : (∀ r : Hoist, L.meansFrom above (f :: r) = none) →
        ∃ j, j < (f :: rest).length ∧ (Z above).length = above.length + j ∧ L.meansFrom above ((f :: rest).take (j + 1)) = none ∧ ∀ i, i ≤ j → L.meansFrom above ((f :: rest).take i) ≠ none := by
      intro hs
      exact ⟨0, by rw [List.length_cons]; omega, by rw [List.length_map]; omega, by rw [List.take_succ_cons]; exact hs _, first⟩
    cases hx : L.kinds[f]? with
    | none =>
      have hk : ks[f]? = none := by
        rw [List.getElem?_eq_none_iff] at hx ⊢
        rw [← h2.len]; exact hx
      rw [hk]
      refine stop fun r => ?_
      show (match (L.kinds[f]?).map Kind.role with
        | some (.sign _) => _
        | some (.same k) => _
        | _ => none) = none
      rw [hx]
      rfl
    | some x =>
      obtain ⟨k, hk, kr⟩ := h2.at hx
      rw [hx] at h
      rw [hk]
      have un : ∀ r : Hoist, L.meansFrom above (f :: r) = (match some x.role with
        | some (.sign _) => L.meansFrom (above ++ [f]) r
        | some (.same k) => (match above[k - 1]? with
          | some s => L.meansFrom (above ++ [s]) r
          | none => none)
        | _ => none) := fun r => by
        show (match (L.kinds[f]?).map Kind.role with
          | some (.sign _) => L.meansFrom (above ++ [f]) r
          | some (.same k) => (match above[k - 1]? with
            | some s => L.meansFrom (above ++ [s]) r
            | none => none)
          | _ => none) = _
        rw [hx]
        rfl
      obtain ⟨xr, xc, xs, xl⟩ := x
      have rr : RR xr k := kr.role
      show ∃ j, j < (f :: rest).length ∧ (if k.role = 0 then meantFrom ks (Z above ++ [Int.ofNat f]) (Z rest) else if k.role = 1 ∧ k.back ≤ (Z above).length then meantFrom ks (Z above ++ [(Z above).getD (k.back - 1).toNat 0]) (Z rest) else Z above).length = above.length + j ∧ _
      cases xr with
      | sign n =>
        have k0 : k.role = 0 := rr.1
        rw [if_pos k0]
        exact go f un h
      | same j =>
        have k1 : k.role = 1 := rr.1
        have kb : k.back = (j : Int) := rr.2.2.1
        have j1 : 1 ≤ j := rr.2.2.2.1
        have h : (match above[j - 1]? with
          | some s => L.meansFrom (above ++ [s]) rest
          | none => none) = none := h
        have un : ∀ r : Hoist, L.meansFrom above (f :: r) = (match above[j - 1]? with
          | some s => L.meansFrom (above ++ [s]) r
          | none => none) := un
        rw [if_neg (show ¬ k.role = 0 by omega)]
        cases hs : above[j - 1]? with
        | none =>
          rw [List.getElem?_eq_none_iff] at hs
          rw [if_neg (by rw [kb, List.length_map]; omega)]
          refine stop fun r => ?_
          rw [un, List.getElem?_eq_none_iff.mpr hs]
        | some s =>
          rw [hs] at h
          have hl := (List.getElem?_eq_some_iff.mp hs).1
          rw [if_pos ⟨k1, by rw [kb, List.length_map]; omega⟩]
          have ej : (k.back - 1).toNat = j - 1 := by omega
          have es : (Z above).getD (k.back - 1).toNat 0 = Int.ofNat s := by
            rw [ej, List.getD_eq_getElem?_getD, List.getElem?_map, hs]
            rfl
          rw [es]
          refine go s (fun r => ?_) h
          rw [un, hs]
      | answer =>
        have k2 : k.role = 2 := rr.1
        rw [if_neg (show ¬ k.role = 0 by omega), if_neg (by omega)]
        exact stop un
theorem means_take : ∀ (rest : Hoist) (above : Row) (i : Nat), L.meansFrom above rest ≠ none → L.meansFrom above (rest.take i) ≠ none := fun rest above i h hn => by
  obtain ⟨j, j1, j2, j3, j4⟩ := means_none h2 (rest.take i) above hn
  have hne : L.meansFrom above ((rest.take i).take (j + 1)) = none := j3
  cases e : L.meansFrom above rest with
  | none => exact h e
  | some r =>
    clear h j2 j3 j4
    -- by induction: what a hoist means, its beginning means too
    have key : ∀ (rest : Hoist) (above : Row) (n : Nat) (r : Row), L.meansFrom above rest = some r → L.meansFrom above (rest.take n) ≠ none := by
      intro rest
      induction rest with
      | nil => intro above n r q; rw [List.take_nil, q]; simp
      | cons f rest ih =>
        intro above n r q
        cases n with
        | zero => intro z; cases z
        | succ n =>
          rw [List.take_succ_cons]
          have q : (match (L.kinds[f]?).map Kind.role with
            | some (.sign _) => L.meansFrom (above ++ [f]) rest
            | some (.same k) => (match above[k - 1]? with
              | some s => L.meansFrom (above ++ [s]) rest
              | none => none)
            | _ => none) = some r := q
          show (match (L.kinds[f]?).map Kind.role with
            | some (.sign _) => L.meansFrom (above ++ [f]) (rest.take n)
            | some (.same k) => (match above[k - 1]? with
              | some s => L.meansFrom (above ++ [s]) (rest.take n)
              | none => none)
            | _ => none) ≠ none
          revert q
          cases (L.kinds[f]?).map Kind.role with
          | none => intro q; cases q
          | some ro =>
            cases ro with
            | sign m => intro q; exact ih _ n r q
            | same k =>
              show (match above[k - 1]? with
                | some s => L.meansFrom (above ++ [s]) rest
                | none => none) = some r → (match above[k - 1]? with
                | some s => L.meansFrom (above ++ [s]) (rest.take n)
                | none => none) ≠ none
              cases above[k - 1]? with
              | none => intro q; cases q
              | some s => intro q; exact ih _ n r q
            | answer => intro q; cases q
    rw [List.take_take] at hne
    exact key rest above _ r e hne
theorem meansNot_some {h : Hoist} (hn : L.means h = none) : L.meansNot h = some (meantFrom ks [] (Z h)).length ∧ (meantFrom ks [] (Z h)).length < h.length := by
  obtain ⟨j, j1, j2, j3, j4⟩ := means_none h2 h [] hn
  have j2 : (meantFrom ks [] (Z h)).length = j := by
    have j2 : (meantFrom ks [] (Z h)).length = 0 + j := j2
    omega
  rw [j2]
  refine ⟨?_, j1⟩
  unfold Locker.meansNot
  rw [List.find?_range_eq_some]
  refine ⟨?_, List.mem_range.mpr j1, fun i hi => ?_⟩
  · show (L.means (h.take (j + 1))).isNone = true
    unfold Locker.means
    rw [j3]
    rfl
  · have := j4 (i + 1) (by omega)
    show (!(L.means (h.take (i + 1))).isNone) = true
    unfold Locker.means
    cases q : L.meansFrom [] (h.take (i + 1)) with
    | none => exact absurd q this
    | some r => rfl
theorem meansNot_none {h : Hoist} {r : Row} (hs : L.means h = some r) : L.meansNot h = none ∧ meantFrom ks [] (Z h) = Z r ∧ r.length = h.length := by
  obtain ⟨e1, e2⟩ := means_some h2 h [] r hs
  refine ⟨?_, e1, by have e2 : r.length = 0 + h.length := e2; omega⟩
  unfold Locker.meansNot
  rw [List.find?_range_eq_none]
  intro i hi
  have := means_take h2 h [] (i + 1) (by have hs : L.meansFrom [] h = some r := hs; rw [hs]; simp)
  show (!(L.means (h.take (i + 1))).isNone) = true
  unfold Locker.means
  cases q : L.meansFrom [] (h.take (i + 1)) with
  | none => exact absurd q this
  | some r => rfl
theorem count_Z (f : Nat) : ∀ l : List Nat, (Z l).count (Int.ofNat f) = l.count f
  | [] => rfl
  | x :: l => by
    show (Int.ofNat x :: Z l).count (Int.ofNat f) = _
    rw [List.count_cons, List.count_cons, count_Z f l]
    by_cases e : x = f
    · subst e; simp
    · have e' : ¬ Int.ofNat x = Int.ofNat f := fun q => e (Int.ofNat.inj q)
      rw [if_neg (by simpa using e'), if_neg (by simpa using e)]
theorem lackAt_is {h : Hoist} {i f : Nat} (hf : h[i]? = some f) (hv : f < ks.length) : lackAt ks (Z h) i = decide (L.copies f < (h.take (i + 1)).count f) := by
  have hk : ks[f]? = some ks[f] := List.getElem?_eq_getElem hv
  obtain ⟨x, hx, kr⟩ := h2.at' hk
  have e1 : (Z h)[i]? = some (Int.ofNat f) := by rw [List.getElem?_map, hf]; rfl
  unfold lackAt
  rw [e1]
  show (match ks[f]? with
    | none => false
    | some k => decide (k.copies < (((Z h).take (i + 1)).count (Int.ofNat f) : Nat))) = _
  rw [hk]
  show decide (ks[f].copies < (((Z h).take (i + 1)).count (Int.ofNat f) : Nat)) = _
  rw [← List.map_take, count_Z h2 f]
  unfold Locker.copies
  rw [hx]
  show decide (ks[f].copies < ((h.take (i + 1)).count f : Nat)) = decide (x.copies < (h.take (i + 1)).count f)
  rw [kr.copies.1]
  rw [decide_eq_decide]
  omega
theorem tooMany_is {h : Hoist} (hv : ∀ f ∈ h, f < ks.length) : L.tooMany h = lackingAt ks (Z h) := by
  unfold Locker.tooMany lackingAt
  rw [List.length_map]
  refine find_same (fun i hi hq => ?_) (fun i hi hp hj => ?_)
  · have hf : h[i]? = some h[i] := List.getElem?_eq_getElem hi
    rw [lackAt_is h2 hf (hv _ (List.getElem_mem hi)), decide_eq_true_eq] at hq
    show (!L.has (h.take (i + 1))) = true
    rw [Bool.not_eq_true', ← Bool.not_eq_true]
    intro q
    unfold Locker.has at q
    rw [List.all_eq_true] at q
    have hm : h[i] ∈ h.take (i + 1) := List.mem_take_iff_getElem.mpr ⟨i, by omega, rfl⟩
    have := q _ hm
    rw [decide_eq_true_eq] at this
    omega
  · have hf : h[i]? = some h[i] := List.getElem?_eq_getElem hi
    rw [lackAt_is h2 hf (hv _ (List.getElem_mem hi)), decide_eq_true_eq]
    have hp : (!L.has (h.take (i + 1))) = true := hp
    rw [Bool.not_eq_true', ← Bool.not_eq_true] at hp
    unfold Locker.has at hp
    rw [List.all_eq_true] at hp
    have htk : h.take (i + 1) = h.take i ++ [h[i]] := List.take_succ_eq_append_getElem hi
    apply Classical.byContradiction
    intro hc
    apply hp
    intro f hfm
    rw [decide_eq_true_eq]
    by_cases ef : f = h[i]
    · rw [ef]; omega
    · have hfm' : f ∈ h.take i := by
        rw [htk] at hfm
        rcases List.mem_append.mp hfm with q | q
        · exact q
        · exact absurd (List.mem_singleton.mp q) ef
      have hi0 : 0 < i := by
        cases i with
        | zero => rw [List.take_zero] at hfm'; cases hfm'
        | succ i => omega
      have hb := hj (i - 1) (by omega)
      have hb : (!L.has (h.take (i - 1 + 1))) = false := hb
      rw [Bool.not_eq_false', show i - 1 + 1 = i by omega] at hb
      unfold Locker.has at hb
      rw [List.all_eq_true] at hb
      have hbf := hb f hfm'
      rw [decide_eq_true_eq] at hbf
      rw [htk, List.count_append, List.count_cons, List.count_nil, if_neg (by simpa using Ne.symm ef)]
      omega
theorem unknown_is (h : Hoist) : h.findIdx? (fun (x : Nat) => decide (L.kinds.length ≤ x)) = unknownAt ks.length (Z h) := by
  unfold unknownAt
  rw [List.findIdx?_map]
  congr 1
  funext x
  show decide (L.kinds.length ≤ x) = decide ((ks.length : Int) ≤ Int.ofNat x)
  rw [decide_eq_decide, h2.len]
  show _ ↔ (ks.length : Int) ≤ (x : Int)
  omega
def enc (a : Reply) : List Int := a.ret :: ((a.nums.map fun (n : Nat) => (n : Int)) ++ a.bytes.map fun (b : UInt8) => (b.toNat : Int))
theorem meansIn_is (h : Hoist) : enc (if FlagsB.isLength h.length = false then BAD else match h.findIdx? (fun (x : Nat) => decide (L.kinds.length ≤ x)), L.meansNot h, L.tooMany h with
      | some i, _, _ => tells (-4) [i]
      | none, some i, _ => tells (-9) [i]
      | none, none, some i => tells (-3) [i]
      | none, none, none => tells (h.length : Nat) ((L.means h).getD [])) = meansIn ks (Z h) := by
  unfold meansIn
  rw [List.length_map]
  by_cases hl : h.length = 0 ∨ 8 < h.length
  · rw [if_pos hl, if_pos]
    · rfl
    · unfold FlagsB.isLength
      rw [Bool.and_eq_false_iff, decide_eq_false_iff_not, decide_eq_false_iff_not]
      show ¬ 1 ≤ h.length ∨ ¬ h.length ≤ 8
      omega
  · rw [if_neg hl, if_neg]
    · rw [unknown_is h2 h]
      cases hu : unknownAt ks.length (Z h) with
      | some i => rfl
      | none =>
        have hv : ∀ f ∈ h, f < ks.length := fun f hf => by
          unfold unknownAt at hu
          rw [List.findIdx?_eq_none_iff] at hu
          have := hu (Int.ofNat f) (List.mem_map_of_mem hf)
          rw [decide_eq_false_iff_not] at this
          have this : ¬ (ks.length : Int) ≤ (f : Int) := this
          omega
        cases hm : L.means h with
        | none =>
          obtain ⟨e1, e2⟩ := meansNot_some h2 hm
          rw [e1]
          show _ = if (meantFrom ks [] (Z h)).length < h.length then _ else _
          rw [if_pos e2]
          rfl
        | some r =>
          obtain ⟨e1, e2, e3⟩ := meansNot_none h2 hm
          rw [e1]
          show _ = if (meantFrom ks [] (Z h)).length < h.length then _ else _
          rw [e2, List.length_map, if_neg (by omega), tooMany_is h2 hv]
          cases lackingAt ks (Z h) with
          | some i => rfl
          | none =>
            show ((h.length : Nat) : Int) :: ((r.map fun (n : Nat) => (n : Int)) ++ []) = ((r.length : Nat) : Int) :: Z r
            rw [List.append_nil, e3]
            rfl
    · unfold FlagsB.isLength
      intro q
      rw [Bool.and_eq_false_iff, decide_eq_false_iff_not, decide_eq_false_iff_not] at q
      have q : ¬ 1 ≤ h.length ∨ ¬ h.length ≤ 8 := q
      omega
end
theorem means_is {t h : List Int} (ht : ∀ x ∈ t, 0 ≤ x ∧ x ≤ 255) (hh : ∀ x ∈ h, 0 ≤ x) : PyWqbact.means t h = means t h := by
  obtain ⟨b, eb, et⟩ := text_some ht
  obtain ⟨n, en, eh⟩ := nats_some hh
  have e0 : PyWqbact.means t h = enc (FlagsB.answer (.means b n)) := by
    unfold PyWqbact.means FlagBNeutral.f
    have : FlagBNeutral.callOf [[1], t, h] = some (.means b n) := by
      show (do return FlagsB.Call.means (← FlagBNeutral.text? t) (← FlagBNeutral.nats? h)) = _
      rw [et, eh]
      rfl
    rw [this]
    rfl
  rw [e0]
  unfold means
  have hl : t.length = b.length := by rw [eb, I_len]
  show enc (if LOOKED < b.length then MUCH else match judge b with
    | .error _ => WRONG
    | .ok L => _) = _
  by_cases hb : 65536 < t.length
  · rw [if_pos hb, if_pos (by rw [← hl]; exact hb)]
    rfl
  · rw [if_neg hb, if_neg (by rw [← hl]; exact hb)]
    have hj := judge_readLocker b
    rw [← eb] at hj
    cases e1 : judge b with
    | error f =>
      rw [e1] at hj
      cases e2 : readLocker t with
      | none => rfl
      | some ks => rw [e2] at hj; exact hj.elim
    | ok L =>
      rw [e1] at hj
      cases e2 : readLocker t with
      | none => rw [e2] at hj; exact hj.elim
      | some ks =>
        rw [e2] at hj
        have hj : All2 KR L.kinds ks ∧ Ups ks := hj
        rw [en]
        exact meansIn_is hj.1 n
end M
set_option Elab.async false
set_option linter.all false
namespace Sh
/-! ### sums -/
def S {α : Type} (f : α → Nat) : List α → Nat
  | [] => 0
  | x :: r => f x + S f r
theorem S_sum {α : Type} (f : α → Nat) : ∀ l : List α, (l.map f).sum = S f l
  | [] => rfl
  | x :: r => by rw [List.map_cons, List.sum_cons, S_sum f r]; rfl
theorem S_le {α : Type} {f g : α → Nat} : ∀ {l : List α}, (∀ x ∈ l, f x ≤ g x) → S f l ≤ S g l
  | [], _ => Nat.le_refl _
  | x :: r, h => Nat.add_le_add (h x (List.mem_cons_self ..)) (S_le fun y hy => h y (List.mem_cons_of_mem _ hy))
theorem S_eq {α : Type} {f g : α → Nat} : ∀ {l : List α}, (∀ x ∈ l, f x = g x) → S f l = S g l
  | [], _ => rfl
  | x :: r, h => by
    show f x + S f r = g x + S g r
    rw [h x (List.mem_cons_self ..), S_eq fun y hy => h y (List.mem_cons_of_mem _ hy)]
theorem S_add {α : Type} (f g : α → Nat) : ∀ l : List α, S (fun x => f x + g x) l = S f l + S g l
  | [] => rfl
  | x :: r => by
    show f x + g x + S (fun x => f x + g x) r = (f x + S f r) + (g x + S g r)
    rw [S_add f g r]
    omega
theorem S_app {α : Type} (f : α → Nat) : ∀ a b : List α, S f (a ++ b) = S f a + S f b
  | [], b => by simp [S]
  | x :: a, b => by
    show f x + S f (a ++ b) = f x + S f a + S f b
    rw [S_app f a b]
    omega
theorem S_filter {α : Type} (f : α → Nat) (p : α → Bool) : ∀ l : List α, S f (l.filter p) = S (fun x => if p x = true then f x else 0) l
  | [] => rfl
  | x :: r => by
    rw [List.filter_cons]
    show _ = (if p x = true then f x else 0) + S (fun x => if p x = true then f x else 0) r
    rw [← S_filter f p r]
    by_cases h : p x = true
    · rw [if_pos h, if_pos h]; rfl
    · rw [if_neg h, if_neg h]; omega
theorem S_zero {α : Type} : ∀ l : List α, S (fun _ => 0) l = 0
  | [] => rfl
  | _ :: r => by show 0 + S (fun _ => 0) r = 0; rw [S_zero r]
/-- a sum with one place changed -/
theorem S_point (a : Nat) : ∀ {l : List Nat}, l.Nodup → S (fun x => if x = a then 1 else 0) l = if a ∈ l then 1 else 0
  | [], _ => rfl
  | x :: r, h => by
    obtain ⟨h1, h2⟩ := List.nodup_cons.mp h
    have ih := S_point a h2
    show (if x = a then 1 else 0) + S (fun x => if x = a then 1 else 0) r = _
    rw [ih]
    by_cases e : x = a
    · subst e
      rw [if_pos rfl, if_neg h1, if_pos (List.mem_cons_self ..)]
    · rw [if_neg e]
      by_cases m : a ∈ r
      · rw [if_pos m, if_pos (List.mem_cons_of_mem _ m)]
      · rw [if_neg m, if_neg (fun q => (List.mem_cons.mp q).elim (fun z => e z.symm) m)]
/-! ### Hall's condition, by sets of flags -/
def cnt (l : List (List Nat)) (W : Nat → Bool) : Nat := l.countP fun A => A.all W
def capS (U : List Nat) (cap : Nat → Nat) (W : Nat → Bool) : Nat := S (fun f => if W f = true then cap f else 0) U
def Hall (U : List Nat) (cap : Nat → Nat) (l : List (List Nat)) : Prop := ∀ W : Nat → Bool, cnt l W ≤ capS U cap W
def dec (cap : Nat → Nat) (f : Nat) : Nat → Nat := fun g => if g = f then cap g - 1 else cap g
theorem cnt_cons (A : List Nat) (l : List (List Nat)) (W : Nat → Bool) : cnt (A :: l) W = cnt l W + if A.all W = true then 1 else 0 := by
  unfold cnt
  rw [List.countP_cons]
theorem cnt_super (W V : Nat → Bool) : ∀ l : List (List Nat), cnt l W + cnt l V ≤ cnt l (fun f => W f || V f) + cnt l (fun f => W f && V f)
  | [] => Nat.le_refl _
  | A :: l => by
    have ih := cnt_super W V l
    rw [cnt_cons, cnt_cons, cnt_cons, cnt_cons]
    have h1 : A.all W = true → A.all (fun f => W f || V f) = true := fun h => by
      rw [List.all_eq_true] at h ⊢
      intro x hx
      rw [h x hx]
      rfl
    have h2 : A.all V = true → A.all (fun f => W f || V f) = true := fun h => by
      rw [List.all_eq_true] at h ⊢
      intro x hx
      rw [h x hx, Bool.or_true]
    have h3 : A.all W = true → A.all V = true → A.all (fun f => W f && V f) = true := fun h g => by
      rw [List.all_eq_true] at h g ⊢
      intro x hx
      rw [h x hx, g x hx]
      rfl
    by_cases c1 : A.all W = true
    · by_cases c2 : A.all V = true
      · rw [if_pos c1, if_pos c2, if_pos (h1 c1), if_pos (h3 c1 c2)]; omega
      · rw [if_pos c1, if_neg c2, if_pos (h1 c1)]; omega
    · by_cases c2 : A.all V = true
      · rw [if_neg c1, if_pos c2, if_pos (h2 c2)]; omega
      · rw [if_neg c1, if_neg c2]; omega
theorem cap_mod (U : List Nat) (cap : Nat → Nat) (W V : Nat → Bool) : capS U cap W + capS U cap V = capS U cap (fun f => W f || V f) + capS U cap (fun f => W f && V f) := by
  unfold capS
  rw [← S_add, ← S_add]
  refine S_eq fun f _ => ?_
  show _ = (if (W f || V f) = true then cap f else 0) + (if (W f && V f) = true then cap f else 0)
  cases W f <;> cases V f <;> simp
/-- sets that are full: the places that must lie in them are as many as they hold -/
theorem full_union {U : List Nat} {cap : Nat → Nat} {l : List (List Nat)} (h : Hall U cap l) {W V : Nat → Bool} (hW : capS U cap W ≤ cnt l W) (hV : capS U cap V ≤ cnt l V) : capS U cap (fun f => W f || V f) ≤ cnt l (fun f => W f || V f) := by
  have h1 := cnt_super W V l
  have h2 := cap_mod U cap W V
  have h3 := h fun f => W f && V f
  omega
theorem full_all {U : List Nat} {cap : Nat → Nat} {l : List (List Nat)} (h : Hall U cap l) : ∀ {A : List Nat}, (∀ f ∈ A, ∃ W : Nat → Bool, W f = true ∧ capS U cap W ≤ cnt l W) → ∃ W : Nat → Bool, A.all W = true ∧ capS U cap W ≤ cnt l W
  | [], _ => ⟨fun _ => false, rfl, by
      have : capS U cap (fun _ => false) = 0 := by
        unfold capS
        simp [S_zero]
      omega⟩
  | f :: A, hA => by
    obtain ⟨W, w1, w2⟩ := hA f (List.mem_cons_self ..)
    obtain ⟨V, v1, v2⟩ := full_all h (A := A) fun g hg => hA g (List.mem_cons_of_mem _ hg)
    refine ⟨fun g => W g || V g, ?_, full_union h w2 v2⟩
    rw [List.all_cons, w1, List.all_eq_true.mpr fun g hg => by rw [List.all_eq_true.mp v1 g hg, Bool.or_true]]
    rfl
theorem cap_dec {U : List Nat} (hU : U.Nodup) {cap : Nat → Nat} {f : Nat} (hf : f ∈ U) (hc : 0 < cap f) (W : Nat → Bool) : capS U cap W = capS U (dec cap f) W + if W f = true then 1 else 0 := by
  have e : (if W f = true then 1 else 0) = S (fun x => if x = f then (if W f = true then 1 else 0) else 0) U := by
    by_cases w : W f = true
    · simp only [w, if_true]
      rw [S_point f hU, if_pos hf]
    · simp only [w, if_false]
      simp [S_zero]
  rw [e]
  unfold capS
  rw [← S_add]
  refine S_eq fun x _ => ?_
  unfold dec
  by_cases ex : x = f
  · subst ex
    by_cases w : W x = true
    · simp only [w, if_true]; omega
    · simp only [w, if_false]; simp
  · simp only [ex, if_false]; omega
theorem hall_tail {U : List Nat} {cap : Nat → Nat} {A : List Nat} {l : List (List Nat)} (h : Hall U cap (A :: l)) : Hall U cap l := fun W => by
  have := h W
  rw [cnt_cons] at this
  omega
/-- one place can be filled so that the others still can be -/
theorem hall_step {U : List Nat} (hU : U.Nodup) {cap : Nat → Nat} {A : List Nat} {l : List (List Nat)} (hA : ∀ f ∈ A, f ∈ U) (h : Hall U cap (A :: l)) : ∃ f, f ∈ A ∧ 0 < cap f ∧ Hall U (dec cap f) l := by
  apply Classical.byContradiction
  intro hn
  have ht := hall_tail h
  have full : ∀ f ∈ A, ∃ W : Nat → Bool, W f = true ∧ capS U cap W ≤ cnt l W := by
    intro f hf
    by_cases hc : 0 < cap f
    · have hx : ¬ Hall U (dec cap f) l := fun q => hn ⟨f, hf, hc, q⟩
      apply Classical.byContradiction
      intro hno
      apply hx
      intro W
      have e := cap_dec hU (hA f hf) hc W
      by_cases w : W f = true
      · rw [if_pos w] at e
        apply Classical.byContradiction
        intro hlt
        exact hno ⟨W, w, by omega⟩
      · rw [if_neg w] at e
        have := ht W
        omega
    · refine ⟨fun g => decide (g = f), by simp, ?_⟩
      have : capS U cap (fun g => decide (g = f)) = 0 := by
        unfold capS
        have : S (fun g => if decide (g = f) = true then cap g else 0) U = S (fun _ => 0) U := S_eq fun x _ => by
          by_cases e : x = f
          · subst e; simp; omega
          · simp [e]
        rw [this, S_zero]
      omega
  obtain ⟨W, w1, w2⟩ := full_all ht full
  have := h W
  rw [cnt_cons, if_pos w1] at this
  omega
/-- flags for the places, none more often than there are -/
def Fits (U : List Nat) (cap : Nat → Nat) : List (List Nat) → List Nat → Prop
  | [], [] => True
  | A :: l, f :: fs => f ∈ A ∧ 0 < cap f ∧ Fits U (dec cap f) l fs
  | _, _ => False
theorem hall_fits {U : List Nat} (hU : U.Nodup) : ∀ {l : List (List Nat)} {cap : Nat → Nat}, (∀ A ∈ l, ∀ f ∈ A, f ∈ U) → Hall U cap l → ∃ fs, Fits U cap l fs
  | [], _, _, _ => ⟨[], trivial⟩
  | A :: l, cap, hl, h => by
    obtain ⟨f, f1, f2, f3⟩ := hall_step hU (hl A (List.mem_cons_self ..)) h
    obtain ⟨fs, hfs⟩ := hall_fits hU (fun B hB => hl B (List.mem_cons_of_mem _ hB)) f3
    exact ⟨f :: fs, f1, f2, hfs⟩
theorem fits_hall {U : List Nat} (hU : U.Nodup) : ∀ {l : List (List Nat)} {cap : Nat → Nat} {fs : List Nat}, (∀ A ∈ l, ∀ f ∈ A, f ∈ U) → Fits U cap l fs → Hall U cap l
  | [], _, [], _, _ => fun W => Nat.zero_le _
  | [], _, _ :: _, _, h => h.elim
  | _ :: _, _, [], _, h => h.elim
  | A :: l, cap, f :: fs, hl, h => fun W => by
    obtain ⟨f1, f2, f3⟩ := h
    have ih := fits_hall hU (fun B hB => hl B (List.mem_cons_of_mem _ hB)) f3 W
    have e := cap_dec hU (hl A (List.mem_cons_self ..) f f1) f2 W
    rw [cnt_cons]
    by_cases w : A.all W = true
    · rw [if_pos w]
      rw [if_pos (List.all_eq_true.mp w f f1)] at e
      omega
    · rw [if_neg w]
      omega
end Sh
set_option Elab.async false
set_option linter.all false
namespace Sh
open Flags
theorem filter_choices (p : Nat → Bool) : ∀ l : List Nat, l.filter p ∈ choices l
  | [] => by simp [choices]
  | x :: r => by
    have ih := filter_choices p r
    rw [List.filter_cons]
    unfold choices
    by_cases h : p x = true
    · rw [if_pos h]
      exact List.mem_append_right _ (List.mem_map.mpr ⟨_, ih, rfl⟩)
    · rw [if_neg h]
      exact List.mem_append_left _ ih
theorem count_by {α : Type} (sg : α → Nat) (q : α → Bool) {Z : List Nat} (hZ : Z.Nodup) : ∀ l : List α, (∀ p ∈ l, sg p ∈ Z) → l.countP q = S (fun s => l.countP fun p => sg p == s && q p) Z
  | [], _ => by
    show 0 = S (fun _ => 0) Z
    rw [S_zero]
  | x :: l, h => by
    have ih := count_by sg q hZ l fun p hp => h p (List.mem_cons_of_mem _ hp)
    have hx := h x (List.mem_cons_self ..)
    have e : S (fun s => (x :: l).countP fun p => sg p == s && q p) Z = S (fun s => (l.countP fun p => sg p == s && q p) + if s = sg x then (if q x = true then 1 else 0) else 0) Z := by
      refine S_eq fun s _ => ?_
      rw [List.countP_cons]
      congr 1
      by_cases e1 : s = sg x
      · subst e1
        cases q x <;> simp
      · have : (sg x == s) = false := beq_eq_false_iff_ne.mpr fun z => e1 z.symm
        rw [this, if_neg e1]
        rfl
    rw [e, S_add, ← ih, List.countP_cons]
    congr 1
    cases hq : q x with
    | true =>
      rw [if_pos rfl, S_point (sg x) hZ, if_pos hx]
    | false =>
      have e3 : S (fun s => if s = sg x then (if false = true then 1 else 0) else 0) Z = S (fun _ => 0) Z := S_eq fun s _ => by
        by_cases c : s = sg x
        · rw [if_pos c, if_neg (by decide)]
        · rw [if_neg c]
      rw [e3, S_zero]
      rfl
def spotA (p : Spot) : List Nat := p.sign :: p.may
structure SpotsOk (sames : List Nat) (l : List Spot) : Prop where
  nd : sames.Nodup
  sg : ∀ p ∈ l, p.sign ∉ sames
  may : ∀ p ∈ l, ∀ k ∈ p.may, k ∈ sames
theorem SpotsOk.tail {sames : List Nat} {p : Spot} {l : List Spot} (h : SpotsOk sames (p :: l)) : SpotsOk sames l := ⟨h.nd, fun q hq => h.sg q (List.mem_cons_of_mem _ hq), fun q hq => h.may q (List.mem_cons_of_mem _ hq)⟩
def signsOf (l : List Spot) : List Nat := (l.map fun (p : Spot) => p.sign).eraseDups
theorem nodup_eraseDups : ∀ (n : Nat) (l : List Nat), l.length ≤ n → l.eraseDups.Nodup
  | _, [], _ => by simp
  | 0, _ :: _, h => by simp at h
  | n + 1, a :: l, h => by
    rw [List.eraseDups_cons]
    have hl : (l.filter fun b => !b == a).length ≤ n := Nat.le_trans (List.length_filter_le _ _) (by simpa using h)
    refine List.nodup_cons.mpr ⟨fun m => ?_, nodup_eraseDups n _ hl⟩
    rw [List.mem_eraseDups, List.mem_filter] at m
    simp at m
theorem signs_nd (l : List Spot) : (signsOf l).Nodup := nodup_eraseDups _ _ (Nat.le_refl _)
theorem signs_mem {l : List Spot} {s : Nat} : s ∈ signsOf l ↔ ∃ p ∈ l, p.sign = s := by
  unfold signsOf
  rw [List.mem_eraseDups, List.mem_map]
/-- places of sign s that a part of the sames may take, and that none of it may -/
def Nn (l : List Spot) (y : List Nat) (s : Nat) : Nat := l.countP fun p => p.sign == s && p.may.any fun k => y.contains k
def Mm (l : List Spot) (y : List Nat) (s : Nat) : Nat := l.countP fun p => p.sign == s && !(p.may.any fun k => y.contains k)
theorem lacks_is (left : List Nat) (l : List Spot) (y : List Nat) (s : Nat) : lacks left l s = Nn l y s + Mm l y s - left.getD s 0 := by
  unfold lacks Nn Mm
  congr 1
  rw [← List.countP_eq_length_filter]
  induction l with
  | nil => rfl
  | cons p l ih =>
    rw [List.countP_cons, List.countP_cons, List.countP_cons, ih]
    cases (p.sign == s) <;> cases (p.may.any fun k => y.contains k) <;> simp <;> omega
def enoughAt (sames left : List Nat) (l : List Spot) (y : List Nat) : Prop :=
  S (lacks left l) (signsOf l) ≤ S (fun k => if (!y.contains k) = true then left.getD k 0 else 0) sames + S (fun s => min (lacks left l s) (Nn l y s)) (signsOf l)
theorem enough_iff (L : Locker) (left : List Nat) (l : List Spot) : L.enough left l = true ↔ ∀ y ∈ choices L.sameKinds, enoughAt L.sameKinds left l y := by
  unfold Locker.enough
  rw [List.all_eq_true]
  refine forall_congr' fun y => forall_congr' fun _ => ?_
  rw [decide_eq_true_eq, S_sum, S_sum, S_sum, S_filter]
  unfold enoughAt signsOf Nn
  have : (fun (s : Nat) => min (lacks left l s) ((l.filter fun (p : Spot) => p.sign == s && p.may.any fun (k : Nat) => y.contains k).length)) = fun s => min (lacks left l s) (l.countP fun p => p.sign == s && p.may.any fun k => y.contains k) := by
    funext s
    rw [List.countP_eq_length_filter]
  rw [this]
theorem all_any {may y : List Nat} {W : Nat → Bool} (h : ∀ k ∈ may, W k = !y.contains k) : may.all W = !(may.any fun k => y.contains k) := by
  induction may with
  | nil => rfl
  | cons k r ih =>
    rw [List.all_cons, List.any_cons, h k (List.mem_cons_self ..), ih fun z hz => h z (List.mem_cons_of_mem _ hz)]
    cases y.contains k <;> simp
theorem cnt_spots {sames : List Nat} {l : List Spot} (ok : SpotsOk sames l) {y : List Nat} {W : Nat → Bool} (hW : ∀ k ∈ sames, W k = !y.contains k) : cnt (l.map spotA) W = S (fun s => if W s = true then Mm l y s else 0) (signsOf l) := by
  unfold cnt
  rw [List.countP_map]
  rw [count_by (fun p : Spot => p.sign) _ (signs_nd l) l fun p hp => signs_mem.mpr ⟨p, hp, rfl⟩]
  refine S_eq fun s _ => ?_
  unfold Mm
  have e : ∀ p ∈ l, (p.sign == s && (spotA p).all W) = (W s && (p.sign == s && !(p.may.any fun k => y.contains k))) := fun p hp => by
    show (p.sign == s && (W p.sign && p.may.all W)) = _
    rw [all_any fun k hk => hW k (ok.may p hp k hk)]
    cases h : (p.sign == s) with
    | false => simp
    | true => rw [beq_iff_eq.mp h]; simp
  have e2 : l.countP ((fun p : Spot => p.sign == s && ((fun A => List.all A W) ∘ spotA) p)) = l.countP fun p => W s && (p.sign == s && !(p.may.any fun k => y.contains k)) := List.countP_congr fun p hp => by
    rw [show ((fun A => List.all A W) ∘ spotA) p = (spotA p).all W from rfl, e p hp]
  rw [e2]
  cases W s with
  | true => simp
  | false => simp
theorem enough_hall (L : Locker) {left : List Nat} {l : List Spot} (ok : SpotsOk L.sameKinds l) : L.enough left l = true ↔ Hall (signsOf l ++ L.sameKinds) (fun f => left.getD f 0) (l.map spotA) := by
  rw [enough_iff]
  constructor
  · intro h W
    have hW : ∀ k ∈ L.sameKinds, W k = !(L.sameKinds.filter fun k => !W k).contains k := fun k hk => by
      cases w : W k with
      | true =>
        have : (L.sameKinds.filter fun k => !W k).contains k = false := by
          rw [List.contains_eq_mem, decide_eq_false_iff_not, List.mem_filter]
          rintro ⟨_, q⟩
          rw [w] at q
          cases q
        rw [this]; rfl
      | false =>
        have : (L.sameKinds.filter fun k => !W k).contains k = true := by
          rw [List.contains_eq_mem, decide_eq_true_eq, List.mem_filter]
          exact ⟨hk, by rw [w]; rfl⟩
        rw [this]; rfl
    have hy := h _ (filter_choices (fun k => !W k) L.sameKinds)
    generalize L.sameKinds.filter (fun k => !W k) = y at hW hy
    rw [cnt_spots ok hW]
    unfold capS
    rw [S_app]
    show _ ≤ S (fun f => if W f = true then left.getD f 0 else 0) (signsOf l) + S (fun f => if W f = true then left.getD f 0 else 0) L.sameKinds
    unfold enoughAt at hy
    have e1 : S (fun k => if (!y.contains k) = true then left.getD k 0 else 0) L.sameKinds = S (fun f => if W f = true then left.getD f 0 else 0) L.sameKinds := S_eq fun k hk => by rw [← hW k hk]
    rw [e1] at hy
    have key : S (fun s => (if W s = true then Mm l y s else 0) + min (lacks left l s) (Nn l y s)) (signsOf l) ≤ S (fun s => (if W s = true then left.getD s 0 else 0) + lacks left l s) (signsOf l) := S_le fun s _ => by
      rw [lacks_is left l y s]
      cases W s <;> simp <;> omega
    rw [S_add, S_add] at key
    omega
  · intro h y _
    obtain ⟨W, hWd⟩ : ∃ W : Nat → Bool, ∀ f, W f = if f ∈ L.sameKinds then !y.contains f else decide (Nn l y f < lacks left l f) := ⟨_, fun _ => rfl⟩
    have hW : ∀ k ∈ L.sameKinds, W k = !y.contains k := fun k hk => by rw [hWd, if_pos hk]
    have hh := h W
    rw [cnt_spots ok hW] at hh
    unfold capS at hh
    rw [S_app] at hh
    have hh : S (fun s => if W s = true then Mm l y s else 0) (signsOf l) ≤ S (fun f => if W f = true then left.getD f 0 else 0) (signsOf l) + S (fun f => if W f = true then left.getD f 0 else 0) L.sameKinds := hh
    unfold enoughAt
    have e1 : S (fun f => if W f = true then left.getD f 0 else 0) L.sameKinds = S (fun k => if (!y.contains k) = true then left.getD k 0 else 0) L.sameKinds := S_eq fun k hk => by rw [hW k hk]
    rw [e1] at hh
    have key : S (fun s => lacks left l s + (if W s = true then left.getD s 0 else 0)) (signsOf l) ≤ S (fun s => min (lacks left l s) (Nn l y s) + (if W s = true then Mm l y s else 0)) (signsOf l) := S_le fun s hs => by
      obtain ⟨p, hp, e⟩ := signs_mem.mp hs
      have hns : s ∉ L.sameKinds := by rw [← e]; exact ok.sg p hp
      have := lacks_is left l y s
      rw [hWd, if_neg hns]
      by_cases c : Nn l y s < lacks left l s
      · rw [if_pos (decide_eq_true c), if_pos (decide_eq_true c)]
        omega
      · rw [if_neg (by simpa using c), if_neg (by simpa using c)]
        omega
    rw [S_add, S_add] at key
    have e2 : S (fun s => lacks left l s) (signsOf l) = S (lacks left l) (signsOf l) := rfl
    omega
end Sh
set_option Elab.async false
set_option linter.all false
namespace Sh
open Flags
theorem S_erase {f : Nat → Nat} {a : Nat} : ∀ {B : List Nat}, a ∈ B → S f B = f a + S f (B.erase a)
  | [], h => by cases h
  | b :: B, h => by
    by_cases e : b = a
    · subst e
      rw [List.erase_cons_head]
      rfl
    · have hm : a ∈ B := (List.mem_cons.mp h).resolve_left fun z => e z.symm
      rw [List.erase_cons_tail (by simpa using e)]
      show f b + S f B = f a + (f b + S f (B.erase a))
      rw [S_erase hm]
      omega
theorem S_support {f : Nat → Nat} : ∀ {A B : List Nat}, A.Nodup → B.Nodup → (∀ x ∈ A, x ∉ B → f x = 0) → (∀ x ∈ B, x ∉ A → f x = 0) → S f A = S f B
  | [], B, _, _, _, h2 => by
    have : S f B = S (fun _ => 0) B := S_eq fun x hx => h2 x hx (by simp)
    rw [this, S_zero]
    rfl
  | a :: A, B, hA, hB, h1, h2 => by
    obtain ⟨a1, a2⟩ := List.nodup_cons.mp hA
    by_cases m : a ∈ B
    · rw [S_erase m]
      show f a + S f A = _
      congr 1
      refine S_support a2 (hB.erase a) (fun x hx hn => ?_) (fun x hx hn => ?_)
      · refine h1 x (List.mem_cons_of_mem _ hx) fun hb => hn ?_
        have : x ≠ a := fun e => a1 (e ▸ hx)
        exact (List.mem_erase_of_ne this).mpr hb
      · refine h2 x (List.mem_of_mem_erase hx) fun hb => ?_
        rcases List.mem_cons.mp hb with e | hb
        · subst e
          exact absurd hx (List.Nodup.not_mem_erase hB)
        · exact hn hb
    · have z := h1 a (List.mem_cons_self ..) m
      show f a + S f A = _
      rw [z, Nat.zero_add]
      refine S_support a2 hB (fun x hx hn => h1 x (List.mem_cons_of_mem _ hx) hn) (fun x hx hn => h2 x hx fun hb => ?_)
      rcases List.mem_cons.mp hb with e | hb
      · subst e; exact m hx
      · exact hn hb
/-! ### flags left -/
theorem less1_get (left : List Nat) (f g : Nat) : (less1 left f).getD g 0 = if g = f then left.getD g 0 - 1 else left.getD g 0 := by
  unfold less1
  rw [List.getD_eq_getElem?_getD, List.getD_eq_getElem?_getD, List.getElem?_set]
  by_cases e : f = g
  · subst e
    rw [if_pos rfl, if_pos rfl]
    by_cases h : f < left.length
    · rw [if_pos h, List.getElem?_eq_getElem h]
      rw [List.getD_eq_getElem?_getD, List.getElem?_eq_getElem h]
      rfl
    · rw [if_neg h, List.getD_eq_getElem?_getD, List.getElem?_eq_none (by omega)]
      rfl
  · rw [if_neg e, if_neg fun z => e z.symm, List.getD_eq_getElem?_getD]
theorem less1_dec (left : List Nat) (f : Nat) : (fun g => (less1 left f).getD g 0) = dec (fun g => left.getD g 0) f := by
  funext g
  rw [less1_get]
  rfl
/-! ### how many sames are needed -/
def num (l : List Spot) (s : Nat) : Nat := l.countP fun p => p.sign == s
theorem lacks_num (left : List Nat) (l : List Spot) (s : Nat) : lacks left l s = num l s - left.getD s 0 := by
  unfold lacks num
  rw [← List.countP_eq_length_filter]
theorem num_cons (p : Spot) (l : List Spot) (s : Nat) : num (p :: l) s = num l s + if p.sign = s then 1 else 0 := by
  unfold num
  rw [List.countP_cons]
  by_cases e : p.sign = s
  · rw [if_pos e, if_pos (beq_iff_eq.mpr e)]
  · rw [if_neg e, if_neg (by simpa using e)]
theorem num_zero {l : List Spot} {s : Nat} (h : s ∉ signsOf l) : num l s = 0 := by
  unfold num
  rw [List.countP_eq_zero]
  intro p hp q
  exact h (signs_mem.mpr ⟨p, hp, beq_iff_eq.mp q⟩)
def total (left : List Nat) (l : List Spot) : Nat := S (lacks left l) (signsOf l)
theorem total_over {left : List Nat} {l : List Spot} {Z : List Nat} (hZ : Z.Nodup) (h : ∀ s ∈ signsOf l, s ∈ Z) : total left l = S (lacks left l) Z :=
  S_support (signs_nd l) hZ (fun s hs hn => absurd (h s hs) hn) fun s _ hn => by rw [lacks_num, num_zero hn, Nat.zero_sub]
theorem signs_cons_sub {p : Spot} {l : List Spot} : ∀ s ∈ signsOf l, s ∈ signsOf (p :: l) := fun s hs => by
  obtain ⟨q, hq, e⟩ := signs_mem.mp hs
  exact signs_mem.mpr ⟨q, List.mem_cons_of_mem _ hq, e⟩
theorem sign_mem_cons (p : Spot) (l : List Spot) : p.sign ∈ signsOf (p :: l) := signs_mem.mpr ⟨p, List.mem_cons_self .., rfl⟩
/-- a place shown by its own sign -/
theorem total_sign {left : List Nat} {p : Spot} {l : List Spot} (h : 0 < left.getD p.sign 0) : total (less1 left p.sign) l = total left (p :: l) := by
  rw [total_over (signs_nd (p :: l)) signs_cons_sub]
  refine S_eq fun s _ => ?_
  rw [lacks_num, lacks_num, num_cons, less1_get]
  by_cases e : p.sign = s
  · subst e
    rw [if_pos rfl, if_pos rfl]
    omega
  · rw [if_neg e, if_neg fun z => e z.symm]
    rfl
/-- a place shown by a same -/
theorem total_same {left : List Nat} {p : Spot} {l : List Spot} {k : Nat} (hk : k ∉ signsOf (p :: l)) : total (less1 left k) l + (if 0 < lacks left (p :: l) p.sign then 1 else 0) = total left (p :: l) := by
  rw [total_over (signs_nd (p :: l)) signs_cons_sub]
  have e : (if 0 < lacks left (p :: l) p.sign then 1 else 0) = S (fun s => if s = p.sign then (if 0 < lacks left (p :: l) p.sign then 1 else 0) else 0) (signsOf (p :: l)) := by
    by_cases c : 0 < lacks left (p :: l) p.sign
    · simp only [c, if_true]
      rw [S_point p.sign (signs_nd _), if_pos (sign_mem_cons p l)]
    · simp only [c, if_false]
      have : S (fun s => if s = p.sign then 0 else 0) (signsOf (p :: l)) = S (fun _ => 0) (signsOf (p :: l)) := S_eq fun s _ => by rw [ite_self]
      rw [this, S_zero]
  rw [e]
  show S (lacks (less1 left k) l) (signsOf (p :: l)) + _ = S (lacks left (p :: l)) (signsOf (p :: l))
  rw [← S_add]
  refine S_eq fun s hs => ?_
  have hks : ¬ s = k := fun z => hk (z ▸ hs)
  rw [lacks_num, lacks_num, lacks_num, num_cons, num_cons, less1_get, if_neg hks, if_pos rfl]
  by_cases c : s = p.sign
  · subst c
    rw [if_pos rfl, if_pos rfl]
    by_cases d : 0 < num l p.sign + 1 - left.getD p.sign 0
    · rw [if_pos d]; omega
    · rw [if_neg d]; omega
  · rw [if_neg c, if_neg fun z => c z.symm]
    rfl
/-! ### displays, place by place -/
def Fill : List Nat → List Spot → List Nat → Prop
  | _, [], [] => True
  | left, p :: l, f :: fs => (f = p.sign ∨ f ∈ p.may) ∧ 0 < left.getD f 0 ∧ Fill (less1 left f) l fs
  | _, _, _ => False
def nsames : List Spot → List Nat → Nat
  | p :: l, f :: fs => (if f = p.sign then 0 else 1) + nsames l fs
  | _, _ => 0
theorem fill_fits {U : List Nat} : ∀ {left : List Nat} {l : List Spot} {fs : List Nat}, Fill left l fs ↔ Fits U (fun f => left.getD f 0) (l.map spotA) fs
  | left, [], [] => Iff.rfl
  | left, [], _ :: _ => Iff.rfl
  | left, _ :: _, [] => Iff.rfl
  | left, p :: l, f :: fs => by
    show ((f = p.sign ∨ f ∈ p.may) ∧ 0 < left.getD f 0 ∧ Fill (less1 left f) l fs) ↔ (f ∈ spotA p ∧ 0 < left.getD f 0 ∧ Fits U (dec (fun f => left.getD f 0) f) (l.map spotA) fs)
    rw [fill_fits (U := U) (left := less1 left f) (l := l) (fs := fs), less1_dec]
    unfold spotA
    rw [List.mem_cons]
theorem univ_nd {sames : List Nat} {l : List Spot} (ok : SpotsOk sames l) : (signsOf l ++ sames).Nodup := by
  refine List.nodup_append.mpr ⟨signs_nd l, ok.nd, fun a ha b hb e => ?_⟩
  obtain ⟨p, hp, q⟩ := signs_mem.mp ha
  exact ok.sg p hp (by rw [q, e]; exact hb)
theorem univ_mem {sames : List Nat} {l : List Spot} (ok : SpotsOk sames l) : ∀ A ∈ l.map spotA, ∀ f ∈ A, f ∈ signsOf l ++ sames := fun A hA f hf => by
  obtain ⟨p, hp, rfl⟩ := List.mem_map.mp hA
  rcases List.mem_cons.mp hf with e | e
  · exact List.mem_append_left _ (signs_mem.mpr ⟨p, hp, e.symm⟩)
  · exact List.mem_append_right _ (ok.may p hp f e)
/-- THE SPECIFICATION'S TEST: the places can be filled -/
theorem enough_fill (L : Locker) {left : List Nat} {l : List Spot} (ok : SpotsOk L.sameKinds l) : L.enough left l = true ↔ ∃ fs, Fill left l fs := by
  rw [enough_hall L ok]
  constructor
  · intro h
    obtain ⟨fs, hfs⟩ := hall_fits (univ_nd ok) (univ_mem ok) h
    exact ⟨fs, fill_fits.mpr hfs⟩
  · rintro ⟨fs, hfs⟩
    exact fits_hall (univ_nd ok) (univ_mem ok) (fill_fits.mp hfs)
theorem may_not_sign {sames : List Nat} {l : List Spot} (ok : SpotsOk sames l) {k : Nat} (hk : k ∈ sames) : k ∉ signsOf l := fun h => by
  obtain ⟨p, hp, e⟩ := signs_mem.mp h
  exact ok.sg p hp (by rw [e]; exact hk)
/-- no display has fewer sames than signs lack flags -/
theorem fill_least {sames : List Nat} : ∀ {left : List Nat} {l : List Spot} {fs : List Nat}, SpotsOk sames l → Fill left l fs → total left l ≤ nsames l fs
  | left, [], [], _, _ => Nat.le_refl _
  | left, [], _ :: _, _, h => h.elim
  | left, _ :: _, [], _, h => h.elim
  | left, p :: l, f :: fs, ok, h => by
    obtain ⟨h1, h2, h3⟩ := h
    have ih := fill_least ok.tail h3
    show _ ≤ (if f = p.sign then 0 else 1) + nsames l fs
    by_cases e : f = p.sign
    · subst e
      rw [if_pos rfl, ← total_sign h2]
      omega
    · rw [if_neg e]
      have hm : f ∈ p.may := h1.resolve_left e
      have hk := may_not_sign ok (ok.may p (List.mem_cons_self ..) f hm)
      have := total_same (left := left) hk
      by_cases c : 0 < lacks left (p :: l) p.sign
      · rw [if_pos c] at this; omega
      · rw [if_neg c] at this; omega
/-- where a sign lacks nothing, its place is shown by itself -/
theorem enough_own (L : Locker) {left : List Nat} {p : Spot} {l : List Spot} (ok : SpotsOk L.sameKinds (p :: l)) (h : L.enough left (p :: l) = true) (h0 : lacks left (p :: l) p.sign = 0) : 0 < left.getD p.sign 0 ∧ L.enough (less1 left p.sign) l = true := by
  have hpos : 0 < left.getD p.sign 0 := by
    rw [lacks_num, num_cons, if_pos rfl] at h0
    omega
  refine ⟨hpos, ?_⟩
  rw [enough_iff] at h ⊢
  intro y hy
  have q := h y hy
  unfold enoughAt at q ⊢
  have e1 : S (lacks (less1 left p.sign) l) (signsOf l) = S (lacks left (p :: l)) (signsOf (p :: l)) := total_sign hpos
  have e2 : S (fun k => if (!y.contains k) = true then (less1 left p.sign).getD k 0 else 0) L.sameKinds = S (fun k => if (!y.contains k) = true then left.getD k 0 else 0) L.sameKinds := S_eq fun k hk => by
    rw [less1_get, if_neg (show ¬ k = p.sign from fun e => ok.sg p (List.mem_cons_self ..) (by rw [← e]; exact hk))]
  have e3 : S (fun s => min (lacks (less1 left p.sign) l s) (Nn l y s)) (signsOf l) = S (fun s => min (lacks left (p :: l) s) (Nn (p :: l) y s)) (signsOf (p :: l)) := by
    have z : S (fun s => min (lacks (less1 left p.sign) l s) (Nn l y s)) (signsOf l) = S (fun s => min (lacks (less1 left p.sign) l s) (Nn l y s)) (signsOf (p :: l)) :=
      S_support (signs_nd l) (signs_nd _) (fun s hs hn => absurd (signs_cons_sub s hs) hn) fun s _ hn => by rw [lacks_num, num_zero hn]; simp
    rw [z]
    refine S_eq fun s _ => ?_
    by_cases c : p.sign = s
    · subst c
      have a1 : lacks (less1 left p.sign) l p.sign = 0 := by
        rw [lacks_num, less1_get, if_pos rfl]
        rw [lacks_num, num_cons, if_pos rfl] at h0
        omega
      rw [a1, h0]
      simp
    · have a1 : lacks (less1 left p.sign) l s = lacks left (p :: l) s := by
        rw [lacks_num, lacks_num, less1_get, num_cons, if_neg fun z => c z.symm, if_neg c]
        rfl
      have a2 : Nn (p :: l) y s = Nn l y s := by
        unfold Nn
        rw [List.countP_cons, beq_eq_false_iff_ne.mpr c]
        simp
      rw [a1, a2]
  rw [e1, e2, e3]
  exact q
/-- what may come first in a display told -/
def cands (L : Locker) (left : List Nat) (p : Spot) (l : List Spot) : List Nat := (p.sign :: if 0 < lacks left (p :: l) p.sign then p.may else []).filter fun f => decide (0 < left.getD f 0) && L.enough (less1 left f) l
theorem cands_iff (L : Locker) {left : List Nat} {p : Spot} {l : List Spot} {f : Nat} : f ∈ cands L left p l ↔ (f = p.sign ∨ (0 < lacks left (p :: l) p.sign ∧ f ∈ p.may)) ∧ 0 < left.getD f 0 ∧ L.enough (less1 left f) l = true := by
  unfold cands
  rw [List.mem_filter, List.mem_cons, Bool.and_eq_true, decide_eq_true_eq]
  by_cases c : 0 < lacks left (p :: l) p.sign
  · simp [c]
  · simp [c]
theorem cands_ne (L : Locker) {left : List Nat} {p : Spot} {l : List Spot} (ok : SpotsOk L.sameKinds (p :: l)) (h : L.enough left (p :: l) = true) : cands L left p l ≠ [] := by
  by_cases c : 0 < lacks left (p :: l) p.sign
  · obtain ⟨fs, hfs⟩ := (enough_fill L ok).mp h
    cases fs with
    | nil => exact hfs.elim
    | cons f fs =>
      obtain ⟨h1, h2, h3⟩ := hfs
      have : f ∈ cands L left p l := (cands_iff L).mpr ⟨h1.imp id fun z => ⟨c, z⟩, h2, (enough_fill L ok.tail).mpr ⟨fs, h3⟩⟩
      exact fun e => by rw [e] at this; cases this
  · obtain ⟨h1, h2⟩ := enough_own L ok h (by omega)
    have : p.sign ∈ cands L left p l := (cands_iff L).mpr ⟨.inl rfl, h1, h2⟩
    exact fun e => by rw [e] at this; cases this
theorem fill_cons (L : Locker) (left : List Nat) (p : Spot) (l : List Spot) : L.fill (p :: l) left = (cands L left p l).headD 0 :: L.fill l (less1 left ((cands L left p l).headD 0)) := rfl
theorem headD_mem {l : List Nat} (h : l ≠ []) : l.headD 0 ∈ l := by
  cases l with
  | nil => exact absurd rfl h
  | cons a r => exact List.mem_cons_self ..
/-- THE DISPLAY TOLD shows the rows, by the fewest sames -/
theorem fill_ok (L : Locker) : ∀ {l : List Spot} {left : List Nat}, SpotsOk L.sameKinds l → L.enough left l = true → Fill left l (L.fill l left) ∧ nsames l (L.fill l left) = total left l
  | [], left, _, _ => ⟨trivial, rfl⟩
  | p :: l, left, ok, h => by
    have hm := headD_mem (cands_ne L ok h)
    rw [fill_cons]
    generalize (cands L left p l).headD 0 = f at hm ⊢
    obtain ⟨h1, h2, h3⟩ := (cands_iff L).mp hm
    obtain ⟨i1, i2⟩ := fill_ok L ok.tail h3
    refine ⟨⟨h1.imp id And.right, h2, i1⟩, ?_⟩
    show (if f = p.sign then 0 else 1) + nsames l (L.fill l (less1 left f)) = _
    rw [i2]
    by_cases e : f = p.sign
    · subst e
      rw [if_pos rfl, total_sign h2]
      omega
    · rw [if_neg e]
      obtain ⟨c, hk⟩ := h1.resolve_left e
      have := total_same (left := left) (may_not_sign ok (ok.may p (List.mem_cons_self ..) f hk))
      rw [if_pos c] at this
      omega
/-- from the left: the lesser number comes before -/
def Before : List Nat → List Nat → Prop
  | a :: as, b :: bs => a < b ∨ (a = b ∧ Before as bs)
  | _, _ => True
/-- a place's flags, rising -/
def Rise (p : Spot) : Prop := (p.sign :: p.may).Pairwise (· < ·)
theorem fill_first (L : Locker) : ∀ {l : List Spot} {left : List Nat} {fs : List Nat}, SpotsOk L.sameKinds l → (∀ p ∈ l, Rise p) → Fill left l fs → nsames l fs = total left l → Before (L.fill l left) fs
  | [], left, [], _, _, _, _ => trivial
  | [], left, _ :: _, _, _, h, _ => h.elim
  | _ :: _, left, [], _, _, h, _ => h.elim
  | p :: l, left, f :: fs, ok, hr, h, hn => by
    obtain ⟨h1, h2, h3⟩ := h
    have hl := fill_least ok.tail h3
    have hen := (enough_fill L ok.tail).mpr ⟨fs, h3⟩
    have hn : (if f = p.sign then 0 else 1) + nsames l fs = total left (p :: l) := hn
    -- f is one of the candidates, and what follows it has the fewest sames
    have key : f ∈ cands L left p l ∧ nsames l fs = total (less1 left f) l := by
      by_cases e : f = p.sign
      · subst e
        rw [if_pos rfl, ← total_sign h2] at hn
        exact ⟨(cands_iff L).mpr ⟨.inl rfl, h2, hen⟩, by omega⟩
      · rw [if_neg e] at hn
        have hm : f ∈ p.may := h1.resolve_left e
        have := total_same (left := left) (may_not_sign ok (ok.may p (List.mem_cons_self ..) f hm))
        by_cases c : 0 < lacks left (p :: l) p.sign
        · rw [if_pos c] at this
          exact ⟨(cands_iff L).mpr ⟨.inr ⟨c, hm⟩, h2, hen⟩, by omega⟩
        · rw [if_neg c] at this
          omega
    rw [fill_cons]
    have hp := hr p (List.mem_cons_self ..)
    have sorted : (cands L left p l).Pairwise (· < ·) := by
      unfold cands
      refine List.Pairwise.filter _ ?_
      by_cases c : 0 < lacks left (p :: l) p.sign
      · rw [if_pos c]; exact hp
      · rw [if_neg c]; exact List.pairwise_singleton _ _
    obtain ⟨k1, k2⟩ := key
    cases hc : cands L left p l with
    | nil => rw [hc] at k1; cases k1
    | cons g r =>
      rw [hc] at k1 sorted
      show g < f ∨ (g = f ∧ Before (L.fill l (less1 left g)) fs)
      rcases List.mem_cons.mp k1 with e | m
      · subst e
        exact .inr ⟨rfl, fill_first L ok.tail (fun q hq => hr q (List.mem_cons_of_mem _ hq)) h3 k2⟩
      · exact .inl ((List.pairwise_cons.mp sorted).1 f m)
end Sh
set_option Elab.async false
set_option linter.all false
namespace Sh
open Flags
/-! ### the places of rows -/
theorem spots_sign {L : Locker} {rows : List Row} {p : Spot} (h : p ∈ L.spots rows) : ∃ r ∈ rows, p.sign ∈ r ∧ p.may.Sublist L.sameKinds := by
  unfold Locker.spots at h
  obtain ⟨r, hr, hp⟩ := List.mem_flatMap.mp h
  obtain ⟨i, hi, rfl⟩ := List.mem_map.mp hp
  have hi := List.mem_range.mp hi
  refine ⟨r, hr, ?_, List.filter_sublist⟩
  show r.getD i 0 ∈ r
  rw [List.getD_eq_getElem?_getD, List.getElem?_eq_getElem hi]
  exact List.getElem_mem hi
theorem same_nd (L : Locker) : L.sameKinds.Nodup := List.Pairwise.filter _ List.nodup_range
theorem same_not_sign {L : Locker} {f : Nat} (h : f ∈ L.sameKinds) : L.isSignAt f = false := by
  unfold Locker.sameKinds at h
  have h := (List.mem_filter.mp h).2
  unfold Locker.isSignAt
  cases e : L.kinds[f]? with
  | none => rfl
  | some k =>
    rw [e] at h
    obtain ⟨ro, c, s, l⟩ := k
    cases ro with
    | sign n => exact absurd (show false = true from h) (by decide)
    | same j => rfl
    | answer => rfl
theorem spots_ok (L : Locker) {rows : List Row} (h : ∀ r ∈ rows, ∀ s ∈ r, L.isSignAt s = true) : SpotsOk L.sameKinds (L.spots rows) := by
  refine ⟨same_nd L, fun p hp q => ?_, fun p hp k hk => ?_⟩
  · obtain ⟨r, hr, hs, _⟩ := spots_sign hp
    have := h r hr _ hs
    rw [same_not_sign q] at this
    cases this
  · obtain ⟨r, hr, hs, hm⟩ := spots_sign hp
    exact hm.subset hk
/-! ### one sign for another of as many copies -/
def sw (a b x : Nat) : Nat := if x = a then b else if x = b then a else x
theorem sw_sw (a b x : Nat) : sw a b (sw a b x) = x := by
  unfold sw
  by_cases h1 : x = a
  · subst h1
    rw [if_pos rfl]
    by_cases h2 : b = x
    · rw [if_pos h2]; exact h2
    · rw [if_neg h2, if_pos rfl]
  · rw [if_neg h1]
    by_cases h2 : x = b
    · subst h2; rw [if_pos rfl, if_pos rfl]
    · rw [if_neg h2, if_neg h1, if_neg h2]
theorem sw_inj {a b x y : Nat} (h : sw a b x = sw a b y) : x = y := by rw [← sw_sw a b x, h, sw_sw]
theorem sw_other {a b x : Nat} (h1 : x ≠ a) (h2 : x ≠ b) : sw a b x = x := by unfold sw; rw [if_neg h1, if_neg h2]
theorem sw_left (a b : Nat) : sw a b a = b := by unfold sw; rw [if_pos rfl]
def swSpot (a b : Nat) (p : Spot) : Spot := ⟨sw a b p.sign, p.may⟩
theorem less1_sw {a b : Nat} {left left' : List Nat} (h : ∀ f, left'.getD (sw a b f) 0 = left.getD f 0) (g : Nat) : ∀ f, (less1 left' (sw a b g)).getD (sw a b f) 0 = (less1 left g).getD f 0 := fun f => by
  rw [less1_get, less1_get, h]
  by_cases e : f = g
  · rw [if_pos e, if_pos (by rw [e])]
  · rw [if_neg e, if_neg fun z => e (sw_inj z)]
theorem fill_sw {a b : Nat} : ∀ {left left' : List Nat} {l : List Spot} {fs : List Nat}, (∀ f, left'.getD (sw a b f) 0 = left.getD f 0) → (∀ p ∈ l, ∀ k ∈ p.may, sw a b k = k) → Fill left l fs → Fill left' (l.map (swSpot a b)) (fs.map (sw a b))
  | left, left', [], [], _, _, _ => trivial
  | left, left', [], _ :: _, _, _, h => h.elim
  | left, left', _ :: _, [], _, _, h => h.elim
  | left, left', p :: l, f :: fs, hl, hm, h => by
    obtain ⟨h1, h2, h3⟩ := h
    refine ⟨?_, by rw [hl]; exact h2, fill_sw (less1_sw hl f) (fun q hq => hm q (List.mem_cons_of_mem _ hq)) h3⟩
    rcases h1 with e | m
    · exact .inl (by rw [e]; rfl)
    · exact .inr (by rw [hm p (List.mem_cons_self ..) f m]; exact m)
theorem getD_map_sw (a b : Nat) (r : Row) {i : Nat} (hi : i < r.length) : (r.map (sw a b)).getD i 0 = sw a b (r.getD i 0) := by
  rw [List.getD_eq_getElem?_getD, List.getElem?_map, List.getElem?_eq_getElem hi, List.getD_eq_getElem?_getD, List.getElem?_eq_getElem hi]
  rfl
theorem points_pos {L : Locker} (hL : ∀ k ∈ L.kinds, ∀ j, k.role = .same j → 1 ≤ j) {f : Nat} (h : f ∈ L.sameKinds) : 1 ≤ L.points f := by
  unfold Locker.sameKinds at h
  have h := (List.mem_filter.mp h).2
  unfold Locker.points
  cases e : L.kinds[f]? with
  | none => rw [e] at h; exact absurd h (by decide)
  | some k =>
    rw [e] at h
    have hm := List.mem_of_getElem? e
    have q := hL k hm
    obtain ⟨ro, c, s, l⟩ := k
    cases ro with
    | sign n => exact absurd (show false = true from h) (by decide)
    | same j => exact q j rfl
    | answer => exact absurd (show false = true from h) (by decide)
theorem spots_sw {L : Locker} (hL : ∀ k ∈ L.kinds, ∀ j, k.role = .same j → 1 ≤ j) (a b : Nat) (r : Row) : L.spots [r.map (sw a b)] = (L.spots [r]).map (swSpot a b) := by
  unfold Locker.spots
  rw [List.flatMap_cons, List.flatMap_cons, List.flatMap_nil, List.append_nil, List.append_nil, List.length_map, List.map_map]
  refine List.map_congr_left fun i hi => ?_
  have hi := List.mem_range.mp hi
  show (⟨(r.map (sw a b)).getD i 0, _⟩ : Spot) = ⟨sw a b (r.getD i 0), _⟩
  rw [getD_map_sw a b r hi]
  congr 1
  refine List.filter_congr fun f hf => ?_
  have hp := points_pos hL hf
  by_cases c : L.points f ≤ i
  · rw [getD_map_sw a b r (show L.points f - 1 < r.length by omega)]
    congr 1
    rw [Bool.eq_iff_iff, beq_iff_eq, beq_iff_eq]
    exact ⟨fun e => sw_inj e, fun e => by rw [e]⟩
  · rw [decide_eq_false c, Bool.false_and, Bool.false_and]
structure LockOk (L : Locker) : Prop where
  same : ∀ k ∈ L.kinds, ∀ j, k.role = .same j → 1 ≤ j
  copies : ∀ k ∈ L.kinds, 1 ≤ k.copies ∧ k.copies ≤ 8
theorem sw_same {L : Locker} {a b : Nat} (ha : L.isSignAt a = true) (hb : L.isSignAt b = true) {k : Nat} (hk : k ∈ L.sameKinds) : sw a b k = k := by
  have := same_not_sign hk
  refine sw_other (fun e => ?_) (fun e => ?_)
  · rw [e, ha] at this; cases this
  · rw [e, hb] at this; cases this
theorem allCopies_get (L : Locker) (f : Nat) : L.allCopies.getD f 0 = L.copies f := by
  unfold Locker.allCopies Locker.copies
  rw [List.getD_eq_getElem?_getD, List.getElem?_map]
theorem isSign_sw {L : Locker} {a b : Nat} (ha : L.isSignAt a = true) (hb : L.isSignAt b = true) {s : Nat} (h : L.isSignAt s = true) : L.isSignAt (sw a b s) = true := by
  unfold sw
  by_cases h1 : s = a
  · rw [if_pos h1]; exact hb
  · rw [if_neg h1]
    by_cases h2 : s = b
    · rw [if_pos h2]; exact ha
    · rw [if_neg h2]; exact h
theorem copies_sw {L : Locker} {a b : Nat} (hc : L.copies a = L.copies b) (f : Nat) : L.copies (sw a b f) = L.copies f := by
  unfold sw
  by_cases h1 : f = a
  · rw [if_pos h1, h1, hc]
  · rw [if_neg h1]
    by_cases h2 : f = b
    · rw [if_pos h2, h2, hc]
    · rw [if_neg h2]
theorem canShow_sw1 {L : Locker} (ok : LockOk L) {a b : Nat} (ha : L.isSignAt a = true) (hb : L.isSignAt b = true) (hc : L.copies a = L.copies b) {r : Row} (hr : ∀ s ∈ r, L.isSignAt s = true) (h : L.canShow r = true) : L.canShow (r.map (sw a b)) = true := by
  unfold Locker.canShow at h ⊢
  have ok1 : SpotsOk L.sameKinds (L.spots [r]) := spots_ok L fun q hq s hs => by rw [List.mem_singleton.mp hq] at hs; exact hr s hs
  have ok2 : SpotsOk L.sameKinds (L.spots [r.map (sw a b)]) := spots_ok L fun q hq s hs => by
    rw [List.mem_singleton.mp hq] at hs
    obtain ⟨x, hx, rfl⟩ := List.mem_map.mp hs
    exact isSign_sw ha hb (hr x hx)
  obtain ⟨fs, hfs⟩ := (enough_fill L ok1).mp h
  refine (enough_fill L ok2).mpr ⟨fs.map (sw a b), ?_⟩
  rw [spots_sw ok.same]
  refine fill_sw (fun f => ?_) (fun p hp k hk => sw_same ha hb (ok1.may p hp k hk)) hfs
  rw [allCopies_get, allCopies_get, copies_sw hc]
theorem canShow_sw {L : Locker} (ok : LockOk L) {a b : Nat} (ha : L.isSignAt a = true) (hb : L.isSignAt b = true) (hc : L.copies a = L.copies b) {r : Row} (hr : ∀ s ∈ r, L.isSignAt s = true) : L.canShow (r.map (sw a b)) = L.canShow r := by
  rw [Bool.eq_iff_iff]
  refine ⟨fun h => ?_, canShow_sw1 ok ha hb hc hr⟩
  have := canShow_sw1 ok ha hb hc (r := r.map (sw a b)) (fun s hs => by
    obtain ⟨x, hx, rfl⟩ := List.mem_map.mp hs
    exact isSign_sw ha hb (hr x hx)) h
  rw [List.map_map, show (sw a b ∘ sw a b) = id from funext fun x => sw_sw a b x, List.map_id] at this
  exact this
/-! ### rows counted plainly -/
def plain (L : Locker) : Nat → Row → Nat
  | 0, p => if L.canShow p = true then 1 else 0
  | m + 1, p => S (fun s => plain L m (p ++ [s])) L.signList
theorem signList_nd (L : Locker) : L.signList.Nodup := List.Pairwise.filter _ List.nodup_range
theorem signList_mem {L : Locker} {s : Nat} : s ∈ L.signList ↔ L.isSignAt s = true := by
  unfold Locker.signList
  rw [List.mem_filter, List.mem_range]
  constructor
  · exact fun h => h.2
  · intro h
    refine ⟨?_, h⟩
    unfold Locker.isSignAt at h
    cases e : L.kinds[s]? with
    | none => rw [e] at h; exact absurd h (by decide)
    | some k => exact (List.getElem?_eq_some_iff.mp e).1
/-- a sum over a list without doubles, its members taken in another order -/
theorem S_perm {f : Nat → Nat} {A B : List Nat} (hA : A.Nodup) (hB : B.Nodup) (h : ∀ x, x ∈ A ↔ x ∈ B) : S f A = S f B :=
  S_support hA hB (fun x hx hn => absurd ((h x).mp hx) hn) (fun x hx hn => absurd ((h x).mpr hx) hn)
theorem S_map {α β : Type} (f : β → Nat) (g : α → β) : ∀ l : List α, S f (l.map g) = S (fun x => f (g x)) l
  | [] => rfl
  | x :: r => by
    show f (g x) + S f (r.map g) = _
    rw [S_map f g r]
    rfl
theorem plain_sw {L : Locker} (ok : LockOk L) {a b : Nat} (ha : L.isSignAt a = true) (hb : L.isSignAt b = true) (hc : L.copies a = L.copies b) : ∀ (m : Nat) {p : Row}, (∀ s ∈ p, L.isSignAt s = true) → plain L m (p.map (sw a b)) = plain L m p
  | 0, p, hp => by
    show (if L.canShow (p.map (sw a b)) = true then 1 else 0) = if L.canShow p = true then 1 else 0
    rw [canShow_sw ok ha hb hc hp]
  | m + 1, p, hp => by
    show S (fun s => plain L m (p.map (sw a b) ++ [s])) L.signList = S (fun s => plain L m (p ++ [s])) L.signList
    have e : S (fun s => plain L m (p.map (sw a b) ++ [s])) L.signList = S (fun s => plain L m (p.map (sw a b) ++ [s])) (L.signList.map (sw a b)) := by
      refine S_perm (signList_nd L) ?_ fun x => ?_
      · exact List.Pairwise.map (R := (· ≠ ·)) (S := (· ≠ ·)) _ (fun x y hxy e => hxy (sw_inj e)) (signList_nd L)
      · rw [List.mem_map, signList_mem]
        constructor
        · intro h
          exact ⟨sw a b x, signList_mem.mpr (isSign_sw ha hb h), sw_sw a b x⟩
        · rintro ⟨y, hy, rfl⟩
          exact isSign_sw ha hb (signList_mem.mp hy)
    rw [e, S_map]
    refine S_eq fun s hs => ?_
    have := plain_sw ok ha hb hc m (p := p ++ [s]) fun x hx => by
      rcases List.mem_append.mp hx with h | h
      · exact hp x h
      · rw [List.mem_singleton.mp h]; exact signList_mem.mp hs
    rw [List.map_append] at this
    exact this
/-- signs that stand not in the beginning count alike if they've as many copies -/
theorem plain_alike {L : Locker} (ok : LockOk L) {m : Nat} {p : Row} (hp : ∀ s ∈ p, L.isSignAt s = true) {a b : Nat} (ha : L.isSignAt a = true) (hb : L.isSignAt b = true) (hc : L.copies a = L.copies b) (na : a ∉ p) (nb : b ∉ p) : plain L m (p ++ [a]) = plain L m (p ++ [b]) := by
  have h := plain_sw ok ha hb hc m (p := p ++ [a]) fun x hx => by
    rcases List.mem_append.mp hx with h | h
    · exact hp x h
    · rw [List.mem_singleton.mp h]; exact ha
  rw [List.map_append] at h
  have e : p.map (sw a b) = p := by
    have : p.map (sw a b) = p.map id := List.map_congr_left fun x hx => sw_other (fun e => na (e ▸ hx)) (fun e => nb (e ▸ hx))
    rw [this, List.map_id]
  rw [e] at h
  have e2 : [a].map (sw a b) = [b] := by
    show [sw a b a] = [b]
    rw [sw_left]
  rw [e2] at h
  exact h.symm
end Sh
set_option Elab.async false
set_option linter.all false
namespace Sh
open Flags
theorem S_pointv (a v : Nat) : ∀ {l : List Nat}, l.Nodup → a ∈ l → S (fun x => if x = a then v else 0) l = v
  | [], _, h => by cases h
  | x :: r, h, hm => by
    obtain ⟨h1, h2⟩ := List.nodup_cons.mp h
    show (if x = a then v else 0) + S (fun x => if x = a then v else 0) r = v
    by_cases e : x = a
    · subst e
      have : S (fun y => if y = x then v else 0) r = S (fun _ => 0) r := S_eq fun y hy => by rw [if_neg (show ¬ y = x from fun z => h1 (by rw [← z]; exact hy))]
      rw [if_pos rfl, this, S_zero]
      rfl
    · rw [if_neg e, S_pointv a v h2 ((List.mem_cons.mp hm).resolve_left fun z => e z.symm)]
      omega
theorem S_const {f : Nat → Nat} {v : Nat} : ∀ {l : List Nat}, (∀ x ∈ l, f x = v) → S f l = l.length * v
  | [], _ => by simp [S]
  | x :: r, h => by
    show f x + S f r = (r.length + 1) * v
    rw [h x (List.mem_cons_self ..), S_const fun y hy => h y (List.mem_cons_of_mem _ hy), Nat.succ_mul]
    omega
theorem S_classes (f cp : Nat → Nat) : ∀ {A : List Nat}, (∀ s ∈ A, 1 ≤ cp s ∧ cp s ≤ 8) → S f A = S (fun c => S f (A.filter fun s => cp s == c + 1)) (List.range 8)
  | [], _ => by
    show 0 = S (fun _ => 0) (List.range 8)
    rw [S_zero]
  | x :: A, h => by
    have ih := S_classes f cp (A := A) fun s hs => h s (List.mem_cons_of_mem _ hs)
    have hx := h x (List.mem_cons_self ..)
    have e : S (fun c => S f ((x :: A).filter fun s => cp s == c + 1)) (List.range 8) = S (fun c => (if c = cp x - 1 then f x else 0) + S f (A.filter fun s => cp s == c + 1)) (List.range 8) := S_eq fun c _ => by
      rw [List.filter_cons]
      by_cases e1 : c = cp x - 1
      · rw [if_pos e1, if_pos (by rw [beq_iff_eq]; omega)]
        rfl
      · rw [if_neg e1, if_neg (by rw [beq_iff_eq]; omega)]
        omega
    rw [e, S_add, S_pointv _ _ List.nodup_range (List.mem_range.mpr (by omega)), ← ih]
    rfl
theorem S_split (f : Nat → Nat) (q : Nat → Bool) : ∀ l : List Nat, S f l = S f (l.filter q) + S f (l.filter fun x => !q x)
  | [] => rfl
  | x :: r => by
    have ih := S_split f q r
    rw [List.filter_cons, List.filter_cons]
    show f x + S f r = _
    cases q x with
    | true =>
      show f x + S f r = (f x + S f (r.filter q)) + S f (r.filter fun x => !q x)
      omega
    | false =>
      show f x + S f r = S f (r.filter q) + (f x + S f (r.filter fun x => !q x))
      omega
theorem copies_of {L : Locker} (ok : LockOk L) {s : Nat} (h : L.isSignAt s = true) : 1 ≤ L.copies s ∧ L.copies s ≤ 8 := by
  unfold Locker.isSignAt at h
  unfold Locker.copies
  cases e : L.kinds[s]? with
  | none => rw [e] at h; exact absurd h (by decide)
  | some k => exact ok.copies k (List.mem_of_getElem? e)
/-- THE SPECIFICATION'S COUNT: the rows that begin so and can be shown -/
theorem count_plain {L : Locker} (ok : LockOk L) : ∀ (m : Nat) {p : Row}, (∀ s ∈ p, L.isSignAt s = true) → L.countFrom m p = plain L m p
  | 0, p, _ => rfl
  | m + 1, p, hp => by
    have hap : ∀ s, L.isSignAt s = true → ∀ x ∈ p ++ [s], L.isSignAt x = true := fun s hs x hx => by
      rcases List.mem_append.mp hx with h | h
      · exact hp x h
      · rw [List.mem_singleton.mp h]; exact hs
    show ((p.eraseDups.map fun (s : Nat) => L.countFrom m (p ++ [s])).sum) + ((List.range 8).map fun (c : Nat) => match L.signList.filter fun (s : Nat) => !p.contains s && L.copies s == c + 1 with
      | [] => 0
      | s :: r => (r.length + 1) * L.countFrom m (p ++ [s])).sum = S (fun s => plain L m (p ++ [s])) L.signList
    rw [S_sum, S_sum, S_split (fun s => plain L m (p ++ [s])) (fun s => p.contains s) L.signList]
    congr 1
    · have e1 : S (fun s => L.countFrom m (p ++ [s])) p.eraseDups = S (fun s => plain L m (p ++ [s])) p.eraseDups := S_eq fun s hs => count_plain ok m (hap s (hp s (List.mem_eraseDups.mp hs)))
      rw [e1]
      refine S_perm (nodup_eraseDups _ _ (Nat.le_refl _)) (List.Pairwise.filter _ (signList_nd L)) fun x => ?_
      rw [List.mem_eraseDups, List.mem_filter, List.contains_eq_mem, decide_eq_true_eq, signList_mem]
      exact ⟨fun h => ⟨hp x h, h⟩, fun h => h.2⟩
    · rw [S_classes (fun s => plain L m (p ++ [s])) L.copies (A := L.signList.filter fun x => !p.contains x) fun s hs => copies_of ok (signList_mem.mp (List.mem_filter.mp hs).1)]
      refine S_eq fun c _ => ?_
      rw [List.filter_filter]
      have ef : (L.signList.filter fun (s : Nat) => !p.contains s && L.copies s == c + 1) = L.signList.filter fun a => L.copies a == c + 1 && !p.contains a := List.filter_congr fun s _ => Bool.and_comm _ _
      rw [ef]
      have hm : ∀ s ∈ L.signList.filter (fun a => L.copies a == c + 1 && !p.contains a), L.isSignAt s = true ∧ L.copies s = c + 1 ∧ s ∉ p := fun s hs => by
        obtain ⟨h1, h2⟩ := List.mem_filter.mp hs
        rw [Bool.and_eq_true, beq_iff_eq, Bool.not_eq_true', List.contains_eq_mem, decide_eq_false_iff_not] at h2
        exact ⟨signList_mem.mp h1, h2.1, h2.2⟩
      revert hm
      generalize L.signList.filter (fun a => L.copies a == c + 1 && !p.contains a) = F
      intro hm
      cases F with
      | nil => rfl
      | cons s r =>
        have h0 := hm s (List.mem_cons_self ..)
        rw [S_const (v := plain L m (p ++ [s])) fun x hx => ?_]
        · show (r.length + 1) * L.countFrom m (p ++ [s]) = _
          rw [count_plain ok m (hap s h0.1)]
          rfl
        · have hx := hm x hx
          exact plain_alike ok hp hx.1 h0.1 (hx.2.1.trans h0.2.1.symm) hx.2.2 h0.2.2
end Sh
set_option Elab.async false
set_option linter.all false
namespace Sh
open Flags M
section
variable {L : Locker} {ks : List KD} (h2 : All2 KR L.kinds ks)
include h2
theorem lock_ok : LockOk L := by
  refine ⟨fun k hk j hj => ?_, fun k hk => ?_⟩
  · obtain ⟨d, _, r⟩ := h2.mem (P := True) k hk
    have rr := r.role
    rw [hj] at rr
    exact rr.2.2.2.1
  · obtain ⟨d, _, r⟩ := h2.mem (P := True) k hk
    exact r.copies.2
theorem isSign_role {s : Nat} : L.isSignAt s = true ↔ ∃ d, ks[s]? = some d ∧ d.role = 0 := by
  unfold Locker.isSignAt
  constructor
  · intro h
    cases e : L.kinds[s]? with
    | none => rw [e] at h; exact absurd h (by decide)
    | some k =>
      obtain ⟨d, hd, r⟩ := h2.at e
      rw [e] at h
      refine ⟨d, hd, ?_⟩
      obtain ⟨ro, c, sh, l⟩ := k
      have rr : RR ro d := r.role
      cases ro with
      | sign n => exact rr.1
      | same j => exact absurd (show false = true from h) (by decide)
      | answer => exact absurd (show false = true from h) (by decide)
  · rintro ⟨d, hd, r0⟩
    obtain ⟨k, hk, r⟩ := h2.at' hd
    rw [hk]
    obtain ⟨ro, c, sh, l⟩ := k
    have rr : RR ro d := r.role
    cases ro with
    | sign n => rfl
    | same j => have : d.role = 1 := rr.1; omega
    | answer => have : d.role = 2 := rr.1; omega
theorem same_role {f : Nat} : f ∈ L.sameKinds ↔ ∃ d, ks[f]? = some d ∧ d.role = 1 := by
  unfold Locker.sameKinds
  rw [List.mem_filter, List.mem_range]
  constructor
  · rintro ⟨h1, h⟩
    have e : L.kinds[f]? = some L.kinds[f] := List.getElem?_eq_getElem h1
    obtain ⟨d, hd, r⟩ := h2.at e
    rw [e] at h
    generalize L.kinds[f] = k at h r
    refine ⟨d, hd, ?_⟩
    obtain ⟨ro, c, sh, l⟩ := k
    have rr : RR ro d := r.role
    cases ro with
    | sign n => exact absurd (show false = true from h) (by decide)
    | same j => exact rr.1
    | answer => exact absurd (show false = true from h) (by decide)
  · rintro ⟨d, hd, r1⟩
    obtain ⟨k, hk, r⟩ := h2.at' hd
    refine ⟨(List.getElem?_eq_some_iff.mp hk).1, ?_⟩
    rw [hk]
    obtain ⟨ro, c, sh, l⟩ := k
    have rr : RR ro d := r.role
    cases ro with
    | sign n => have : d.role = 0 := rr.1; omega
    | same j => rfl
    | answer => have : d.role = 2 := rr.1; omega
theorem copies_get {f : Nat} {d : KD} (h : ks[f]? = some d) : d.copies = (L.copies f : Int) := by
  obtain ⟨k, hk, r⟩ := h2.at' h
  unfold Locker.copies
  rw [hk]
  exact r.copies.1
theorem points_get {f : Nat} {d : KD} (h : ks[f]? = some d) (h1 : d.role = 1) : d.back = (L.points f : Int) ∧ 1 ≤ L.points f ∧ L.points f ≤ 4 := by
  obtain ⟨k, hk, r⟩ := h2.at' h
  unfold Locker.points
  rw [hk]
  obtain ⟨ro, c, sh, l⟩ := k
  have rr : RR ro d := r.role
  cases ro with
  | sign n => have : d.role = 0 := rr.1; omega
  | same j => exact ⟨rr.2.2.1, rr.2.2.2⟩
  | answer => have : d.role = 2 := rr.1; omega
theorem before_role (hu : Ups ks) {i j : Nat} {a b : KD} (hi : ks[i]? = some a) (hj : ks[j]? = some b) (h : a.role < b.role) : i < j := by
  obtain ⟨hi1, hi2⟩ := List.getElem?_eq_some_iff.mp hi
  obtain ⟨hj1, hj2⟩ := List.getElem?_eq_some_iff.mp hj
  apply Classical.byContradiction
  intro hn
  by_cases e : i = j
  · subst e
    rw [hi] at hj
    have := Option.some.inj hj
    rw [this] at h
    omega
  · have := (List.pairwise_iff_getElem.mp hu j i hj1 hi1 (by omega)).1
    rw [hi2, hj2] at this
    omega
theorem rise_ok (hu : Ups ks) {rows : List Row} (h : ∀ r ∈ rows, ∀ s ∈ r, L.isSignAt s = true) : ∀ p ∈ L.spots rows, Rise p := fun p hp => by
  obtain ⟨r, hr, hs, hm⟩ := spots_sign hp
  have hsg := h r hr _ hs
  obtain ⟨d, hd, r0⟩ := (isSign_role h2).mp hsg
  refine List.pairwise_cons.mpr ⟨fun k hk => ?_, List.Pairwise.sublist hm ?_⟩
  · obtain ⟨e, he, r1⟩ := (same_role h2).mp (hm.subset hk)
    exact before_role h2 hu hd he (by omega)
  · exact List.Pairwise.filter _ List.pairwise_lt_range
/-- the signs are the kinds of the lowest numbers -/
theorem signs_first (hu : Ups ks) {s t : Nat} (h : L.isSignAt t = true) (hs : s < t) : L.isSignAt s = true := by
  obtain ⟨d, hd, r0⟩ := (isSign_role h2).mp h
  have ht := (List.getElem?_eq_some_iff.mp hd).1
  have hsl : s < ks.length := by omega
  have e : ks[s]? = some ks[s] := List.getElem?_eq_getElem hsl
  refine (isSign_role h2).mpr ⟨_, e, ?_⟩
  obtain ⟨x, _, q⟩ := h2.mem' (P := True) ks[s] (List.getElem_mem hsl)
  have rg := role_range q
  have := (List.pairwise_iff_getElem.mp hu s t hsl ht hs).1
  rw [(List.getElem?_eq_some_iff.mp hd).2] at this
  omega
end
end Sh
set_option Elab.async false
set_option linter.all false
namespace Sh
open Flags M
/-! ### a place's flags -/
def mayAt (L : Locker) (r : Row) (i : Nat) : List Nat := L.sameKinds.filter fun (f : Nat) => decide (L.points f ≤ i) && r.getD (L.points f - 1) 0 == r.getD i 0
def chAt (L : Locker) (r : Row) (i : Nat) : List Nat := r.getD i 0 :: mayAt L r i
def rowCh (L : Locker) (r : Row) : List (List Nat) := (List.range r.length).map (chAt L r)
def spotsOf (L : Locker) (r : Row) : List Spot := (List.range r.length).map fun (i : Nat) => ⟨r.getD i 0, mayAt L r i⟩
theorem spots_flat (L : Locker) (rows : List Row) : L.spots rows = rows.flatMap (spotsOf L) := rfl
theorem spots_cons (L : Locker) (r : Row) (rows : List Row) : L.spots (r :: rows) = spotsOf L r ++ L.spots rows := rfl
theorem spots_one (L : Locker) (r : Row) : L.spots [r] = spotsOf L r := by
  rw [spots_cons]
  exact List.append_nil _
theorem rowCh_is (L : Locker) (r : Row) : rowCh L r = (spotsOf L r).map spotA := by
  unfold rowCh spotsOf
  rw [List.map_map]
  rfl
theorem spots_map (L : Locker) : ∀ rows : List Row, (L.spots rows).map spotA = rows.flatMap (rowCh L)
  | [] => rfl
  | r :: rows => by
    rw [spots_cons, List.map_append, spots_map L rows, ← rowCh_is]
    rfl
def isSame (L : Locker) (f : Nat) : Bool := match (L.kinds[f]?).map Kind.role with
  | some (.same _) => true
  | _ => false
theorem same_is (L : Locker) : L.sameKinds = (List.range L.kinds.length).filter (isSame L) := rfl
/-- the test that a flag is one of the sames of a place -/
def condAt (L : Locker) (r : Row) (i f : Nat) : Bool := (decide (L.points f ≤ i) && r.getD (L.points f - 1) 0 == r.getD i 0) && isSame L f
theorem mayAt_is (L : Locker) (r : Row) (i : Nat) : mayAt L r i = (List.range L.kinds.length).filter (condAt L r i) := by
  unfold mayAt
  rw [same_is, List.filter_filter]
  rfl
/-! ### all parts of the sames, in the program's order -/
def setsTo (L : Locker) : Nat → List (List Nat)
  | 0 => [[]]
  | i + 1 => if isSame L i = true then setsTo L i ++ (setsTo L i).map (fun y => y ++ [i]) else setsTo L i
def sames (L : Locker) (i : Nat) : List Nat := (List.range i).filter (isSame L)
theorem sames_succ (L : Locker) (i : Nat) : sames L (i + 1) = if isSame L i = true then sames L i ++ [i] else sames L i := by
  unfold sames
  rw [List.range_succ, List.filter_append, List.filter_cons, List.filter_nil]
  by_cases h : isSame L i = true
  · rw [if_pos h, if_pos h]
  · rw [if_neg h, if_neg h, List.append_nil]
theorem sets_sub (L : Locker) : ∀ (i : Nat) (y : List Nat), y ∈ setsTo L i → y.Sublist (sames L i)
  | 0, y, h => by
    have h : y ∈ [[]] := h
    rw [List.mem_singleton.mp h]
    exact List.Sublist.refl _
  | i + 1, y, h => by
    unfold setsTo at h
    rw [sames_succ]
    by_cases c : isSame L i = true
    · rw [if_pos c] at h ⊢
      rcases List.mem_append.mp h with h | h
      · exact (sets_sub L i y h).trans (List.sublist_append_left _ _)
      · obtain ⟨z, hz, rfl⟩ := List.mem_map.mp h
        exact (sets_sub L i z hz).append (List.Sublist.refl _)
    · rw [if_neg c] at h ⊢
      exact sets_sub L i y h
theorem sets_all (L : Locker) (W : Nat → Bool) : ∀ i : Nat, (sames L i).filter W ∈ setsTo L i
  | 0 => List.mem_singleton.mpr rfl
  | i + 1 => by
    have ih := sets_all L W i
    rw [sames_succ]
    unfold setsTo
    by_cases c : isSame L i = true
    · rw [if_pos c, if_pos c, List.filter_append, List.filter_cons, List.filter_nil]
      by_cases w : W i = true
      · rw [if_pos w]
        exact List.mem_append_right _ (List.mem_map.mpr ⟨_, ih, rfl⟩)
      · rw [if_neg w, List.append_nil]
        exact List.mem_append_left _ ih
    · rw [if_neg c, if_neg c]
      exact ih
theorem sets_len (L : Locker) : ∀ i : Nat, (setsTo L i).length = 2 ^ (sames L i).length
  | 0 => rfl
  | i + 1 => by
    have ih := sets_len L i
    rw [sames_succ]
    unfold setsTo
    by_cases c : isSame L i = true
    · rw [if_pos c, if_pos c, List.length_append, List.length_map, ih, List.length_append, List.length_singleton, Nat.pow_succ]
      omega
    · rw [if_neg c, if_neg c]
      exact ih
/-! ### the program's test -/
/-- how many places of sign s no same but the chosen ones can show -/
def bnd (wanted : List (List Nat)) (chosen : List Nat) (s : Nat) : Nat := wanted.countP fun A => A.headD 0 == s && A.tail.all fun f => chosen.contains f
def bound (wanted : List (List Nat)) (left chosen : List Nat) : Nat := S (fun s => bnd wanted chosen s - left.getD s 0) (wanted.map fun A => A.headD 0).eraseDups
theorem bnd_spots (l : List Spot) (chosen : List Nat) (s : Nat) : bnd (l.map spotA) chosen s = l.countP fun p => p.sign == s && p.may.all fun f => chosen.contains f := by
  unfold bnd
  rw [List.countP_map]
  rfl
theorem heads_spots (l : List Spot) : ((l.map spotA).map fun A => A.headD 0).eraseDups = signsOf l := by
  unfold signsOf
  rw [List.map_map]
  rfl
def canFill (sets wanted : List (List Nat)) (left : List Nat) : Bool := sets.all fun chosen => decide (bound wanted left chosen ≤ S (fun f => left.getD f 0) chosen)
theorem S_sub {f : Nat → Nat} {y A : List Nat} (hA : A.Nodup) (hs : y.Sublist A) : S f y = S (fun x => if y.contains x = true then f x else 0) A := by
  rw [← S_filter]
  refine S_perm (hA.sublist hs) (List.Pairwise.filter _ hA) fun x => ?_
  rw [List.mem_filter, List.contains_eq_mem, decide_eq_true_eq]
  exact ⟨fun h => ⟨hs.subset h, h⟩, fun h => h.2⟩
theorem all_congr {l : List Nat} {p q : Nat → Bool} (h : ∀ x ∈ l, p x = q x) : l.all p = l.all q := by
  rw [Bool.eq_iff_iff, List.all_eq_true, List.all_eq_true]
  exact ⟨fun a x hx => by rw [← h x hx]; exact a x hx, fun a x hx => by rw [h x hx]; exact a x hx⟩
theorem cnt_bnd {sm : List Nat} {l : List Spot} (ok : SpotsOk sm l) {y : List Nat} {W : Nat → Bool} (hW : ∀ k ∈ sm, W k = y.contains k) : cnt (l.map spotA) W = S (fun s => if W s = true then bnd (l.map spotA) y s else 0) (signsOf l) := by
  unfold cnt
  rw [List.countP_map]
  rw [count_by (fun p : Spot => p.sign) _ (signs_nd l) l fun p hp => signs_mem.mpr ⟨p, hp, rfl⟩]
  refine S_eq fun s _ => ?_
  rw [bnd_spots]
  have e : ∀ p ∈ l, (p.sign == s && (spotA p).all W) = (W s && (p.sign == s && p.may.all fun f => y.contains f)) := fun p hp => by
    show (p.sign == s && (W p.sign && p.may.all W)) = _
    rw [all_congr fun k hk => hW k (ok.may p hp k hk)]
    cases h : (p.sign == s) with
    | false => rw [Bool.false_and, Bool.false_and, Bool.and_false]
    | true => rw [beq_iff_eq.mp h, Bool.true_and, Bool.true_and]
  have e2 : l.countP ((fun p : Spot => p.sign == s && ((fun A => List.all A W) ∘ spotA) p)) = l.countP fun p => W s && (p.sign == s && p.may.all fun f => y.contains f) := List.countP_congr fun p hp => by
    rw [show ((fun A => List.all A W) ∘ spotA) p = (spotA p).all W from rfl, e p hp]
  rw [e2]
  cases W s with
  | true => simp
  | false => simp
/-- THE PROGRAM'S TEST is the specification's -/
theorem canFill_is (L : Locker) {left : List Nat} {l : List Spot} (ok : SpotsOk L.sameKinds l) : canFill (setsTo L L.kinds.length) (l.map spotA) left = L.enough left l := by
  have esm : sames L L.kinds.length = L.sameKinds := rfl
  rw [Bool.eq_iff_iff, enough_hall L ok]
  unfold canFill
  rw [List.all_eq_true]
  constructor
  · intro h W
    have hy := h _ (sets_all L W L.kinds.length)
    have hsub := sets_sub L _ _ (sets_all L W L.kinds.length)
    rw [esm] at hy hsub
    have hW : ∀ k ∈ L.sameKinds, W k = (L.sameKinds.filter W).contains k := fun k hk => by
      rw [List.contains_eq_mem, Bool.eq_iff_iff, decide_eq_true_eq, List.mem_filter]
      exact ⟨fun w => ⟨hk, w⟩, fun w => w.2⟩
    generalize L.sameKinds.filter W = y at hW hy hsub
    rw [decide_eq_true_eq] at hy
    rw [cnt_bnd ok hW]
    unfold capS
    rw [S_app]
    unfold bound at hy
    rw [heads_spots, S_sub ok.nd hsub] at hy
    have e1 : S (fun x => if y.contains x = true then left.getD x 0 else 0) L.sameKinds = S (fun f => if W f = true then left.getD f 0 else 0) L.sameKinds := S_eq fun k hk => by rw [← hW k hk]
    rw [e1] at hy
    have key : S (fun s => if W s = true then bnd (l.map spotA) y s else 0) (signsOf l) ≤ S (fun s => (bnd (l.map spotA) y s - left.getD s 0) + (if W s = true then left.getD s 0 else 0)) (signsOf l) := S_le fun s _ => by
      cases W s <;> simp <;> omega
    rw [S_add] at key
    show S (fun s => if W s = true then bnd (l.map spotA) y s else 0) (signsOf l) ≤ S (fun f => if W f = true then left.getD f 0 else 0) (signsOf l) + S (fun f => if W f = true then left.getD f 0 else 0) L.sameKinds
    omega
  · intro h y hy
    have hsub := sets_sub L _ _ hy
    rw [esm] at hsub
    rw [decide_eq_true_eq]
    obtain ⟨W, hWd⟩ : ∃ W : Nat → Bool, ∀ f, W f = if f ∈ L.sameKinds then y.contains f else decide (left.getD f 0 < bnd (l.map spotA) y f) := ⟨_, fun _ => rfl⟩
    have hW : ∀ k ∈ L.sameKinds, W k = y.contains k := fun k hk => by rw [hWd, if_pos hk]
    have hh := h W
    rw [cnt_bnd ok hW] at hh
    unfold capS at hh
    rw [S_app] at hh
    have hh : S (fun s => if W s = true then bnd (l.map spotA) y s else 0) (signsOf l) ≤ S (fun f => if W f = true then left.getD f 0 else 0) (signsOf l) + S (fun f => if W f = true then left.getD f 0 else 0) L.sameKinds := hh
    unfold bound
    rw [heads_spots, S_sub ok.nd hsub]
    have e1 : S (fun x => if y.contains x = true then left.getD x 0 else 0) L.sameKinds = S (fun f => if W f = true then left.getD f 0 else 0) L.sameKinds := S_eq fun k hk => by rw [← hW k hk]
    rw [e1]
    have key : S (fun s => (bnd (l.map spotA) y s - left.getD s 0) + (if W s = true then left.getD s 0 else 0)) (signsOf l) ≤ S (fun s => if W s = true then bnd (l.map spotA) y s else 0) (signsOf l) := S_le fun s hs => by
      obtain ⟨p, hp, e⟩ := signs_mem.mp hs
      have hns : s ∉ L.sameKinds := by rw [← e]; exact ok.sg p hp
      rw [hWd, if_neg hns]
      by_cases c : left.getD s 0 < bnd (l.map spotA) y s
      · rw [if_pos (decide_eq_true c), if_pos (decide_eq_true c)]
        omega
      · rw [if_neg (by simpa using c), if_neg (by simpa using c)]
        omega
    rw [S_add] at key
    omega
/-! ### the display, place by place -/
def firstF (L : Locker) (left : List Nat) (p : Spot) (l : List Spot) : Option Nat := (spotA p).find? fun f => decide (0 < left.getD f 0) && L.enough (less1 left f) l
theorem first_no (L : Locker) {left : List Nat} {p : Spot} {l : List Spot} (ok : SpotsOk L.sameKinds (p :: l)) (h : firstF L left p l = none) : L.enough left (p :: l) = false := by
  rw [← Bool.not_eq_true]
  intro q
  obtain ⟨fs, hfs⟩ := (enough_fill L ok).mp q
  cases fs with
  | nil => exact hfs.elim
  | cons f fs =>
    obtain ⟨h1, h2, h3⟩ := hfs
    have := List.find?_eq_none.mp h f (by unfold spotA; exact List.mem_cons.mpr h1)
    exact this (by rw [decide_eq_true h2, (enough_fill L ok.tail).mpr ⟨fs, h3⟩]; rfl)
theorem first_yes (L : Locker) {left : List Nat} {p : Spot} {l : List Spot} {f : Nat} (ok : SpotsOk L.sameKinds (p :: l)) (h : firstF L left p l = some f) :
    L.enough left (p :: l) = true ∧ 0 < left.getD f 0 ∧ L.enough (less1 left f) l = true ∧ L.fill (p :: l) left = f :: L.fill l (less1 left f) ∧ (f = p.sign ∨ f ∈ p.may) := by
  have hp := List.find?_some h
  rw [Bool.and_eq_true, decide_eq_true_eq] at hp
  have hm : f ∈ spotA p := List.mem_of_find?_eq_some h
  have hm := List.mem_cons.mp hm
  have hen : L.enough left (p :: l) = true := by
    obtain ⟨fs, hfs⟩ := (enough_fill L ok.tail).mp hp.2
    exact (enough_fill L ok).mpr ⟨f :: fs, hm, hp.1, hfs⟩
  refine ⟨hen, hp.1, hp.2, ?_, hm⟩
  have key : (cands L left p l).headD 0 = f := by
    unfold cands
    by_cases c : 0 < lacks left (p :: l) p.sign
    · rw [if_pos c]
      unfold firstF spotA at h
      rw [← List.head?_filter] at h
      cases e : (p.sign :: p.may).filter (fun f => decide (0 < left.getD f 0) && L.enough (less1 left f) l) with
      | nil => rw [e] at h; cases h
      | cons a r => rw [e] at h; exact Option.some.inj h
    · rw [if_neg c]
      obtain ⟨h1, h2⟩ := enough_own L ok hen (by omega)
      have e : (decide (0 < left.getD p.sign 0) && L.enough (less1 left p.sign) l) = true := by rw [decide_eq_true h1, h2]; rfl
      unfold firstF spotA at h
      rw [List.find?_cons] at h
      simp only [e] at h
      have h := Option.some.inj h
      rw [List.filter_cons, if_pos e]
      exact h
  rw [fill_cons, key]
/-- the flags of the display told are signs or sames of the locker -/
theorem fill_kinds (L : Locker) : ∀ {l : List Spot} {left fs : List Nat}, Fill left l fs → ∀ f ∈ fs, ∃ p ∈ l, f = p.sign ∨ f ∈ p.may
  | [], _, [], _, f, hf => by cases hf
  | [], _, _ :: _, h, _, _ => h.elim
  | _ :: _, _, [], h, _, _ => h.elim
  | p :: l, left, g :: fs, h, f, hf => by
    obtain ⟨h1, h2, h3⟩ := h
    rcases List.mem_cons.mp hf with e | m
    · subst e
      exact ⟨p, List.mem_cons_self .., h1⟩
    · obtain ⟨q, hq, r⟩ := fill_kinds L h3 f m
      exact ⟨q, List.mem_cons_of_mem _ hq, r⟩
theorem fill_len : ∀ {l : List Spot} {left fs : List Nat}, Fill left l fs → fs.length = l.length
  | [], _, [], _ => rfl
  | [], _, _ :: _, h => h.elim
  | _ :: _, _, [], h => h.elim
  | p :: l, left, g :: fs, h => by
    rw [List.length_cons, List.length_cons, fill_len h.2.2]
end Sh
set_option Elab.async false
set_option linter.all false
namespace Sh
open Flags M
/-! ### the locker judged, with bounds -/
structure LK (L : Locker) (ks : List KD) : Prop where
  h2 : All2 KR L.kinds ks
  hu : Ups ks
  len : ks.length ≤ 66000
theorem LK.lenL {L : Locker} {ks : List KD} (h : LK L ks) : L.kinds.length = ks.length := h.h2.len
theorem LK.ok {L : Locker} {ks : List KD} (h : LK L ks) : LockOk L := lock_ok h.h2
theorem isSame_role {L : Locker} {ks : List KD} (h : LK L ks) {f : Nat} {d : KD} (hd : ks[f]? = some d) : isSame L f = decide (d.role = 1) := by
  have := (same_role h.h2 (f := f))
  have hf : f < L.kinds.length := by rw [h.lenL]; exact (List.getElem?_eq_some_iff.mp hd).1
  rw [same_is, List.mem_filter, List.mem_range] at this
  rw [Bool.eq_iff_iff, decide_eq_true_eq]
  constructor
  · intro q
    obtain ⟨d', hd', r⟩ := this.mp ⟨hf, q⟩
    rw [hd] at hd'
    rw [Option.some.inj hd']
    exact r
  · intro q
    exact (this.mpr ⟨d, hd, q⟩).2
theorem isSignAt_role {L : Locker} {ks : List KD} (h : LK L ks) {f : Nat} {d : KD} (hd : ks[f]? = some d) : L.isSignAt f = decide (d.role = 0) := by
  have := (isSign_role h.h2 (s := f))
  rw [Bool.eq_iff_iff, decide_eq_true_eq]
  constructor
  · intro q
    obtain ⟨d', hd', r⟩ := this.mp q
    rw [hd] at hd'
    rw [Option.some.inj hd']
    exact r
  · intro q
    exact this.mpr ⟨d, hd, q⟩
/-! ### the signs are the first kinds -/
def nsg (L : Locker) : Nat := L.signList.length
theorem filter_range_down {p : Nat → Bool} : ∀ {n : Nat}, (∀ s t, t < n → p t = true → s < t → p s = true) → (List.range n).filter p = List.range ((List.range n).filter p).length
  | 0, _ => rfl
  | n + 1, h => by
    have ih := filter_range_down (p := p) (n := n) fun s t ht => h s t (by omega)
    rw [List.range_succ, List.filter_append, List.filter_cons, List.filter_nil]
    by_cases c : p n = true
    · rw [if_pos c]
      have e : (List.range n).filter p = List.range n := by
        rw [List.filter_eq_self]
        intro a ha
        exact h a n (by omega) c (List.mem_range.mp ha)
      rw [e, ← List.range_succ, List.length_range]
    · rw [if_neg c, List.append_nil]
      exact ih
theorem signList_range {L : Locker} {ks : List KD} (h : LK L ks) : L.signList = List.range (nsg L) := by
  unfold nsg
  exact filter_range_down fun s t _ ht hs => signs_first h.h2 h.hu ht hs
theorem isSign_lt {L : Locker} {ks : List KD} (h : LK L ks) {s : Nat} : L.isSignAt s = true ↔ s < nsg L := by
  rw [← signList_mem, signList_range h, List.mem_range]
theorem nsg_le {L : Locker} {ks : List KD} (h : LK L ks) : nsg L ≤ ks.length := by
  rw [← h.lenL]
  unfold nsg Locker.signList
  exact Nat.le_trans (List.length_filter_le _ _) (by rw [List.length_range]; exact Nat.le_refl _)
/-! ### at most four sames -/
theorem rising_len : ∀ {l : List Nat} {a b : Nat}, l.Pairwise (· < ·) → (∀ x ∈ l, a ≤ x ∧ x ≤ b) → l.length ≤ b + 1 - a
  | [], _, _, _, _ => Nat.zero_le _
  | x :: l, a, b, hp, h => by
    obtain ⟨h1, h2⟩ := List.pairwise_cons.mp hp
    have hx := h x (List.mem_cons_self ..)
    have ih := rising_len (a := x + 1) (b := b) h2 fun y hy => ⟨h1 y hy, (h y (List.mem_cons_of_mem _ hy)).2⟩
    rw [List.length_cons]
    omega
theorem sames_four {L : Locker} {ks : List KD} (h : LK L ks) : L.sameKinds.length ≤ 4 := by
  have hp : (L.sameKinds.map L.points).Pairwise (· < ·) := by
    rw [List.pairwise_map]
    have hr : L.sameKinds.Pairwise (· < ·) := List.Pairwise.filter _ List.pairwise_lt_range
    refine List.Pairwise.imp_of_mem (fun {a b} ha hb hab => ?_) hr
    obtain ⟨d, hd, r⟩ := (same_role h.h2).mp ha
    obtain ⟨e, he, q⟩ := (same_role h.h2).mp hb
    have pa := points_get h.h2 hd r
    have pb := points_get h.h2 he q
    obtain ⟨i1, i2⟩ := List.getElem?_eq_some_iff.mp hd
    obtain ⟨j1, j2⟩ := List.getElem?_eq_some_iff.mp he
    have := (List.pairwise_iff_getElem.mp h.hu a b i1 j1 hab).2.1
    rw [i2, j2] at this
    have := this r q
    omega
  have := rising_len hp (a := 1) (b := 4) fun x hx => by
    obtain ⟨f, hf, rfl⟩ := List.mem_map.mp hx
    obtain ⟨d, hd, r⟩ := (same_role h.h2).mp hf
    exact (points_get h.h2 hd r).2
  rw [List.length_map] at this
  omega
theorem sames_mono (L : Locker) {i n : Nat} (h : i ≤ n) : (sames L i).length ≤ (sames L n).length := by
  induction n with
  | zero =>
    have : i = 0 := by omega
    subst this
    exact Nat.le_refl _
  | succ n ih =>
    by_cases e : i = n + 1
    · subst e; exact Nat.le_refl _
    · refine Nat.le_trans (ih (by omega)) ?_
      rw [sames_succ]
      by_cases c : isSame L n = true
      · rw [if_pos c, List.length_append]; omega
      · rw [if_neg c]; exact Nat.le_refl _
theorem sets_bound {L : Locker} {ks : List KD} (h : LK L ks) {i : Nat} (hi : i ≤ ks.length) : (setsTo L i).length ≤ 16 := by
  rw [sets_len]
  have h1 := sames_mono L (show i ≤ L.kinds.length by rw [h.lenL]; exact hi)
  have h2 := sames_four h
  have e : sames L L.kinds.length = L.sameKinds := rfl
  rw [e] at h1
  exact Nat.le_trans (Nat.pow_le_pow_right (by omega) (Nat.le_trans h1 h2)) (by decide)
/-! ### one sign for another, as many copies or enough -/
theorem fill_swc {a b : Nat} : ∀ {left left' : List Nat} {l : List Spot} {fs : List Nat}, (∀ f, min (left.getD f 0) l.length ≤ left'.getD (sw a b f) 0) → (∀ p ∈ l, ∀ k ∈ p.may, sw a b k = k) → Fill left l fs → Fill left' (l.map (swSpot a b)) (fs.map (sw a b))
  | left, left', [], [], _, _, _ => trivial
  | left, left', [], _ :: _, _, _, h => h.elim
  | left, left', _ :: _, [], _, _, h => h.elim
  | left, left', p :: l, f :: fs, hl, hm, h => by
    obtain ⟨h1, h2, h3⟩ := h
    refine ⟨?_, ?_, fill_swc (fun g => ?_) (fun q hq => hm q (List.mem_cons_of_mem _ hq)) h3⟩
    · rcases h1 with e | m
      · exact .inl (by rw [e]; rfl)
      · exact .inr (by rw [hm p (List.mem_cons_self ..) f m]; exact m)
    · have := hl f
      rw [List.length_cons] at this
      omega
    · have := hl g
      rw [List.length_cons] at this
      rw [less1_get, less1_get]
      by_cases e : g = f
      · rw [if_pos e, if_pos (by rw [e])]
        omega
      · rw [if_neg e, if_neg fun z => e (sw_inj z)]
        omega
theorem spotsOf_len (L : Locker) (r : Row) : (spotsOf L r).length = r.length := by
  unfold spotsOf
  rw [List.length_map, List.length_range]
theorem copies_swc {L : Locker} {a b n : Nat} (hc : min (L.copies a) n = min (L.copies b) n) (f : Nat) : min (L.copies f) n ≤ L.copies (sw a b f) := by
  unfold sw
  by_cases h1 : f = a
  · rw [if_pos h1, h1]; omega
  · rw [if_neg h1]
    by_cases h2 : f = b
    · rw [if_pos h2, h2]; omega
    · rw [if_neg h2]; omega
theorem canShow_swc1 {L : Locker} (ok : LockOk L) {a b : Nat} (ha : L.isSignAt a = true) (hb : L.isSignAt b = true) {r : Row} (hc : min (L.copies a) r.length = min (L.copies b) r.length) (hr : ∀ s ∈ r, L.isSignAt s = true) (h : L.canShow r = true) : L.canShow (r.map (sw a b)) = true := by
  unfold Locker.canShow at h ⊢
  have ok1 : SpotsOk L.sameKinds (L.spots [r]) := spots_ok L fun q hq s hs => by rw [List.mem_singleton.mp hq] at hs; exact hr s hs
  have ok2 : SpotsOk L.sameKinds (L.spots [r.map (sw a b)]) := spots_ok L fun q hq s hs => by
    rw [List.mem_singleton.mp hq] at hs
    obtain ⟨x, hx, rfl⟩ := List.mem_map.mp hs
    exact isSign_sw ha hb (hr x hx)
  obtain ⟨fs, hfs⟩ := (enough_fill L ok1).mp h
  refine (enough_fill L ok2).mpr ⟨fs.map (sw a b), ?_⟩
  rw [spots_sw ok.same]
  refine fill_swc (fun f => ?_) (fun p hp k hk => sw_same ha hb (ok1.may p hp k hk)) hfs
  rw [allCopies_get, allCopies_get, spots_one, spotsOf_len]
  exact copies_swc hc f
theorem canShow_swc {L : Locker} (ok : LockOk L) {a b : Nat} (ha : L.isSignAt a = true) (hb : L.isSignAt b = true) {r : Row} (hc : min (L.copies a) r.length = min (L.copies b) r.length) (hr : ∀ s ∈ r, L.isSignAt s = true) : L.canShow (r.map (sw a b)) = L.canShow r := by
  rw [Bool.eq_iff_iff]
  refine ⟨fun h => ?_, canShow_swc1 ok ha hb hc hr⟩
  have := canShow_swc1 ok ha hb (r := r.map (sw a b)) (by rw [List.length_map]; exact hc) (fun s hs => by
    obtain ⟨x, hx, rfl⟩ := List.mem_map.mp hs
    exact isSign_sw ha hb (hr x hx)) h
  rw [List.map_map, show (sw a b ∘ sw a b) = id from funext fun x => sw_sw a b x, List.map_id] at this
  exact this
theorem plain_swc {L : Locker} (ok : LockOk L) {a b : Nat} (ha : L.isSignAt a = true) (hb : L.isSignAt b = true) : ∀ (m : Nat) {p : Row}, min (L.copies a) (p.length + m) = min (L.copies b) (p.length + m) → (∀ s ∈ p, L.isSignAt s = true) → plain L m (p.map (sw a b)) = plain L m p
  | 0, p, hc, hp => by
    show (if L.canShow (p.map (sw a b)) = true then 1 else 0) = if L.canShow p = true then 1 else 0
    rw [canShow_swc ok ha hb hc hp]
  | m + 1, p, hc, hp => by
    show S (fun s => plain L m (p.map (sw a b) ++ [s])) L.signList = S (fun s => plain L m (p ++ [s])) L.signList
    have e : S (fun s => plain L m (p.map (sw a b) ++ [s])) L.signList = S (fun s => plain L m (p.map (sw a b) ++ [s])) (L.signList.map (sw a b)) := by
      refine S_perm (signList_nd L) ?_ fun x => ?_
      · exact List.Pairwise.map (R := (· ≠ ·)) (S := (· ≠ ·)) _ (fun x y hxy e => hxy (sw_inj e)) (signList_nd L)
      · rw [List.mem_map, signList_mem]
        constructor
        · intro h
          exact ⟨sw a b x, signList_mem.mpr (isSign_sw ha hb h), sw_sw a b x⟩
        · rintro ⟨y, hy, rfl⟩
          exact isSign_sw ha hb (signList_mem.mp hy)
    rw [e, S_map]
    refine S_eq fun s hs => ?_
    have := plain_swc ok ha hb m (p := p ++ [s]) (by rw [List.length_append, List.length_singleton, show p.length + 1 + m = p.length + (m + 1) by omega]; exact hc) fun x hx => by
      rcases List.mem_append.mp hx with h | h
      · exact hp x h
      · rw [List.mem_singleton.mp h]; exact signList_mem.mp hs
    rw [List.map_append] at this
    exact this
/-- signs that stand not in the beginning count alike if they've as many copies, or as many as the row is long -/
theorem plain_alikec {L : Locker} (ok : LockOk L) {m : Nat} {p : Row} (hp : ∀ s ∈ p, L.isSignAt s = true) {a b : Nat} (ha : L.isSignAt a = true) (hb : L.isSignAt b = true) (hc : min (L.copies a) (p.length + 1 + m) = min (L.copies b) (p.length + 1 + m)) (na : a ∉ p) (nb : b ∉ p) : plain L m (p ++ [a]) = plain L m (p ++ [b]) := by
  have h := plain_swc ok ha hb m (p := p ++ [a]) (by rw [List.length_append, List.length_singleton]; exact hc) fun x hx => by
    rcases List.mem_append.mp hx with h | h
    · exact hp x h
    · rw [List.mem_singleton.mp h]; exact ha
  rw [List.map_append] at h
  have e : p.map (sw a b) = p := by
    have : p.map (sw a b) = p.map id := List.map_congr_left fun x hx => sw_other (fun e => na (e ▸ hx)) (fun e => nb (e ▸ hx))
    rw [this, List.map_id]
  rw [e] at h
  have e2 : [a].map (sw a b) = [b] := by
    show [sw a b a] = [b]
    rw [sw_left]
  rw [e2] at h
  exact h.symm
/-! ### what shows a longer row shows, cut off, what it begins with -/
theorem fill_front : ∀ {left : List Nat} {l : List Spot} {q : List Spot} {fs : List Nat}, Fill left (l ++ q) fs → ∃ gs, Fill left l gs
  | left, [], q, fs, _ => ⟨[], trivial⟩
  | left, p :: l, q, [], h => h.elim
  | left, p :: l, q, f :: fs, h => by
    obtain ⟨h1, h2, h3⟩ := h
    obtain ⟨gs, hg⟩ := fill_front (l := l) (q := q) h3
    exact ⟨f :: gs, h1, h2, hg⟩
theorem getD_app_left {p q : List Nat} {i : Nat} (h : i < p.length) : (p ++ q).getD i 0 = p.getD i 0 := by
  rw [List.getD_eq_getElem?_getD, List.getD_eq_getElem?_getD, List.getElem?_append_left h]
theorem mayAt_app {L : Locker} (ok : LockOk L) {p q : Row} {i : Nat} (h : i < p.length) : mayAt L (p ++ q) i = mayAt L p i := by
  unfold mayAt
  refine List.filter_congr fun f hf => ?_
  have hp := points_pos ok.same hf
  by_cases c : L.points f ≤ i
  · rw [getD_app_left h, getD_app_left (show L.points f - 1 < p.length by omega)]
  · rw [decide_eq_false c, Bool.false_and, Bool.false_and]
theorem spotsOf_app {L : Locker} (ok : LockOk L) (p : Row) (s : Nat) : ∃ q, spotsOf L (p ++ [s]) = spotsOf L p ++ q := by
  unfold spotsOf
  rw [List.length_append, List.length_singleton, List.range_succ, List.map_append]
  refine ⟨_, congrArg (· ++ _) (List.map_congr_left fun i hi => ?_)⟩
  have hi := List.mem_range.mp hi
  rw [getD_app_left hi, mayAt_app ok hi]
theorem canShow_front {L : Locker} (ok : LockOk L) {p : Row} {s : Nat} (hp : ∀ x ∈ p ++ [s], L.isSignAt x = true) (h : L.canShow (p ++ [s]) = true) : L.canShow p = true := by
  unfold Locker.canShow at h ⊢
  have ok1 : SpotsOk L.sameKinds (L.spots [p ++ [s]]) := spots_ok L fun q hq x hx => by rw [List.mem_singleton.mp hq] at hx; exact hp x hx
  have ok2 : SpotsOk L.sameKinds (L.spots [p]) := spots_ok L fun q hq x hx => by rw [List.mem_singleton.mp hq] at hx; exact hp x (List.mem_append_left _ hx)
  obtain ⟨fs, hfs⟩ := (enough_fill L ok1).mp h
  rw [spots_one] at hfs
  obtain ⟨q, e⟩ := spotsOf_app ok p s
  rw [e] at hfs
  obtain ⟨gs, hg⟩ := fill_front hfs
  exact (enough_fill L ok2).mpr ⟨gs, by rw [spots_one]; exact hg⟩
theorem plain_zero {L : Locker} (ok : LockOk L) : ∀ (m : Nat) {p : Row}, (∀ x ∈ p, L.isSignAt x = true) → L.canShow p = false → plain L m p = 0
  | 0, p, _, h => by
    show (if L.canShow p = true then 1 else 0) = 0
    rw [h]
    rfl
  | m + 1, p, hp, h => by
    show S (fun s => plain L m (p ++ [s])) L.signList = 0
    have e : S (fun s => plain L m (p ++ [s])) L.signList = S (fun _ => 0) L.signList := S_eq fun s hs => by
      have hps : ∀ x ∈ p ++ [s], L.isSignAt x = true := fun x hx => by
        rcases List.mem_append.mp hx with q | q
        · exact hp x q
        · rw [List.mem_singleton.mp q]; exact signList_mem.mp hs
      refine plain_zero ok m hps ?_
      rw [← Bool.not_eq_true]
      intro q
      rw [canShow_front ok hps q] at h
      cases h
    rw [e, S_zero]
/-! ### the counts by the next sign -/
def cntNext (L : Locker) (m : Nat) (p : Row) : List Nat := (List.range (nsg L)).map fun s => plain L m (p ++ [s])
theorem cnt_len (L : Locker) (m : Nat) (p : Row) : (cntNext L m p).length = nsg L := by
  unfold cntNext
  rw [List.length_map, List.length_range]
theorem cnt_at {L : Locker} {m : Nat} {p : Row} {s : Nat} (h : s < nsg L) : (cntNext L m p)[s]? = some (plain L m (p ++ [s])) := by
  unfold cntNext
  rw [List.getElem?_map, List.getElem?_range h]
  rfl
theorem cnt_sum {L : Locker} {ks : List KD} (h : LK L ks) (m : Nat) (p : Row) : (cntNext L m p).sum = plain L (m + 1) p := by
  unfold cntNext
  rw [S_sum, ← signList_range h]
  rfl
/-! ### the row of a number -/
def stepN (L : Locker) (m : Nat) (p : Row) (x : Nat × Option Nat) (s : Nat) : Nat × Option Nat := match x.2 with
  | some _ => x
  | none => let n := L.countFrom m (p ++ [s])
    if x.1 < n then (x.1, some s) else (x.1 - n, none)
theorem fold_some (L : Locker) (m : Nat) (p : Row) (i s : Nat) : ∀ l : List Nat, l.foldl (stepN L m p) (i, some s) = (i, some s)
  | [] => rfl
  | x :: l => by
    rw [List.foldl_cons]
    exact fold_some L m p i s l
theorem nth_succ (L : Locker) (m : Nat) (p : Row) (i : Nat) : L.nthFrom (m + 1) p i = match (L.signList.foldl (stepN L m p) (i, none)).2 with
    | some s => L.nthFrom m (p ++ [s]) (L.signList.foldl (stepN L m p) (i, none)).1
    | none => none := rfl
/-- where the search stands: signs below j are passed, left rows are to be passed yet -/
structure NthAt (L : Locker) (m : Nat) (p : Row) (i j left : Nat) : Prop where
  eq : L.signList.foldl (stepN L m p) (i, none) = (L.signList.drop j).foldl (stepN L m p) (left, none)
  lt : left < S (fun s => L.countFrom m (p ++ [s])) (L.signList.drop j)
theorem NthAt.start {L : Locker} {m : Nat} {p : Row} {i : Nat} (h : i < S (fun s => L.countFrom m (p ++ [s])) L.signList) : NthAt L m p i 0 i := ⟨rfl, h⟩
theorem range_drop {n j : Nat} (h : j < n) : (List.range n).drop j = j :: (List.range n).drop (j + 1) := by
  rw [List.drop_eq_getElem_cons (by rw [List.length_range]; exact h), List.getElem_range]
theorem NthAt.below {L : Locker} {ks : List KD} (hL : LK L ks) {m : Nat} {p : Row} {i j left : Nat} (h : NthAt L m p i j left) : j < nsg L := by
  apply Classical.byContradiction
  intro hn
  have := h.lt
  rw [signList_range hL, List.drop_eq_nil_of_le (by rw [List.length_range]; omega)] at this
  exact absurd this (Nat.not_lt_zero _)
theorem NthAt.next {L : Locker} {ks : List KD} (hL : LK L ks) {m : Nat} {p : Row} {i j left : Nat} (h : NthAt L m p i j left) (hc : L.countFrom m (p ++ [j]) ≤ left) : NthAt L m p i (j + 1) (left - L.countFrom m (p ++ [j])) := by
  have hj := h.below hL
  obtain ⟨h1, h2⟩ := h
  have e : L.signList.drop j = j :: L.signList.drop (j + 1) := by rw [signList_range hL]; exact range_drop hj
  rw [e] at h1 h2
  rw [List.foldl_cons] at h1
  have es : stepN L m p (left, none) j = (left - L.countFrom m (p ++ [j]), none) := by
    show (if left < L.countFrom m (p ++ [j]) then (left, some j) else (left - L.countFrom m (p ++ [j]), none)) = _
    rw [if_neg (by omega)]
  rw [es] at h1
  refine ⟨h1, ?_⟩
  have h2 : left < L.countFrom m (p ++ [j]) + S (fun s => L.countFrom m (p ++ [s])) (L.signList.drop (j + 1)) := h2
  omega
theorem NthAt.found {L : Locker} {ks : List KD} (hL : LK L ks) {m : Nat} {p : Row} {i j left : Nat} (h : NthAt L m p i j left) (hc : left < L.countFrom m (p ++ [j])) : L.nthFrom (m + 1) p i = L.nthFrom m (p ++ [j]) left := by
  have hj := h.below hL
  have h1 := h.eq
  have e : L.signList.drop j = j :: L.signList.drop (j + 1) := by rw [signList_range hL]; exact range_drop hj
  rw [e, List.foldl_cons] at h1
  have es : stepN L m p (left, none) j = (left, some j) := by
    show (if left < L.countFrom m (p ++ [j]) then (left, some j) else (left - L.countFrom m (p ++ [j]), none)) = _
    rw [if_pos hc]
  rw [es, fold_some] at h1
  rw [nth_succ, h1]
theorem fold_pass (L : Locker) (m : Nat) (p : Row) : ∀ (l : List Nat) (i : Nat), S (fun s => L.countFrom m (p ++ [s])) l ≤ i → (l.foldl (stepN L m p) (i, none)).2 = none
  | [], i, _ => rfl
  | s :: l, i, h => by
    have h : L.countFrom m (p ++ [s]) + S (fun s => L.countFrom m (p ++ [s])) l ≤ i := h
    rw [List.foldl_cons]
    have es : stepN L m p (i, none) s = (i - L.countFrom m (p ++ [s]), none) := by
      show (if i < L.countFrom m (p ++ [s]) then (i, some s) else (i - L.countFrom m (p ++ [s]), none)) = _
      rw [if_neg (by omega)]
    rw [es]
    exact fold_pass L m p l _ (by omega)
theorem nth_none {L : Locker} {m : Nat} {p : Row} {i : Nat} (h : S (fun s => L.countFrom m (p ++ [s])) L.signList ≤ i) : L.nthFrom (m + 1) p i = none := by
  rw [nth_succ, fold_pass L m p L.signList i h]
theorem count_app {L : Locker} {ks : List KD} (hL : LK L ks) {m : Nat} {p : Row} (hp : ∀ x ∈ p, L.isSignAt x = true) {s : Nat} (hs : s < nsg L) : L.countFrom m (p ++ [s]) = plain L m (p ++ [s]) :=
  count_plain hL.ok m fun x hx => by
    rcases List.mem_append.mp hx with q | q
    · exact hp x q
    · rw [List.mem_singleton.mp q]; exact (isSign_lt hL).mpr hs
theorem count_S {L : Locker} {ks : List KD} (hL : LK L ks) {m : Nat} {p : Row} (hp : ∀ x ∈ p, L.isSignAt x = true) : S (fun s => L.countFrom m (p ++ [s])) L.signList = plain L (m + 1) p :=
  S_eq fun s hs => count_app hL hp (by rw [signList_range hL] at hs; exact List.mem_range.mp hs)
/-! ### the number of a row -/
theorem number_cons {L : Locker} {ks : List KD} (hL : LK L ks) {p r : Row} {s : Nat} (hp : ∀ x ∈ p, L.isSignAt x = true) (hs : s < nsg L) : L.numberFrom p (s :: r) = ((cntNext L r.length p).take s).sum + L.numberFrom (p ++ [s]) r := by
  show ((L.signList.filter fun (x : Nat) => decide (x < s)).map fun (x : Nat) => L.countFrom r.length (p ++ [x])).sum + L.numberFrom (p ++ [s]) r = _
  congr 1
  have e : (L.signList.filter fun (x : Nat) => decide (x < s)) = List.range s := by
    rw [signList_range hL]
    have : ∀ n, s ≤ n → (List.range n).filter (fun x => decide (x < s)) = List.range s := by
      intro n hn
      induction n with
      | zero =>
        have : s = 0 := by omega
        subst this
        rfl
      | succ n ih =>
        rw [List.range_succ, List.filter_append, List.filter_cons, List.filter_nil]
        by_cases c : s = n + 1
        · subst c
          rw [if_pos (by simp)]
          have : (List.range n).filter (fun x => decide (x < n + 1)) = List.range n := by
            rw [List.filter_eq_self]
            intro a ha
            have := List.mem_range.mp ha
            simp
            omega
          rw [this, ← List.range_succ]
        · rw [if_neg (by simp; omega), List.append_nil]
          exact ih (by omega)
    exact this _ (by omega)
  rw [e]
  unfold cntNext
  rw [← List.map_take, List.take_range, Nat.min_eq_left (by omega)]
  refine congrArg List.sum (List.map_congr_left fun x hx => ?_)
  exact count_app hL hp (by have := List.mem_range.mp hx; omega)
end Sh
set_option Elab.async false
set_option linter.all false
namespace Sh
open Flags M
/-! ### how many kinds a text tells -/
theorem kinds_len : ∀ {lines : List (List Int)} {ks0 ks : List KD}, readKindsFrom ks0 lines = some ks → ks.length ≤ ks0.length + lines.length
  | [], ks0, ks, h => by
    have e : ks0 = ks := Option.some.inj h
    rw [← e]
    exact Nat.le_refl _
  | l :: r, ks0, ks, h => by
    have h : (match readKind (cutI 32 l) with
      | none => none
      | some k => if fits ks0 k = true then readKindsFrom (ks0 ++ [k]) r else none) = some ks := h
    cases hr : readKind (cutI 32 l) with
    | none => rw [hr] at h; cases h
    | some k =>
      rw [hr] at h
      have h : (if fits ks0 k = true then readKindsFrom (ks0 ++ [k]) r else none) = some ks := h
      split at h
      · have := kinds_len h
        rw [List.length_append, List.length_singleton] at this
        rw [List.length_cons]
        omega
      · cases h
theorem read_len {t : List Int} {ks : List KD} (h : readLocker t = some ks) : ks.length ≤ t.length + 1 := by
  unfold readLocker at h
  split at h
  · have hc := cut_len 10 t
    have hd : (cutI 10 t).dropLast.length ≤ (cutI 10 t).length := by rw [List.length_dropLast]; omega
    unfold readLines at h
    split at h
    · cases h
    · rename_i w r e
      rw [e, List.length_cons] at hd
      split at h
      · unfold readKinds at h
        split at h
        · cases h
        · cases h
        · rename_i k q e2
          split at h
          · have := kinds_len e2
            rw [Option.some.inj h] at this
            simp at this
            omega
          · cases h
      · cases h
  · cases h
def readT (t : List Int) : Option (List KD) := if 65536 < t.length then none else readLocker t
structure TopR (t R : List Int) (F : Locker → Reply) : Prop where
  long : 65536 < t.length → R = [-2]
  wrong : ¬ 65536 < t.length → readLocker t = none → R = [-6]
  good : ¬ 65536 < t.length → ∀ ks, readLocker t = some ks → ∃ L, LK L ks ∧ R = enc (F L)
theorem top_r {t : List Int} {b : Bytes} (eb : t = I b) (F : Locker → Reply) : TopR t (enc (ofLocker b F)) F := by
  have hl : t.length = b.length := by rw [eb, I_len]
  have hj := judge_readLocker b
  rw [← eb] at hj
  have e0 : ofLocker b F = if 65536 < b.length then MUCH else match judge b with
    | .error _ => WRONG
    | .ok L => F L := rfl
  rw [← hl] at e0
  refine ⟨fun h => ?_, fun h hn => ?_, fun h ks hk => ?_⟩
  · rw [e0, if_pos h]
    rfl
  · rw [e0, if_neg h]
    rw [hn] at hj
    cases e1 : judge b with
    | error f => rfl
    | ok L => rw [e1] at hj; exact hj.elim
  · rw [e0, if_neg h]
    rw [hk] at hj
    cases e1 : judge b with
    | error f => rw [e1] at hj; exact hj.elim
    | ok L =>
      rw [e1] at hj
      have hj : All2 KR L.kinds ks ∧ Ups ks := hj
      exact ⟨L, ⟨hj.1, hj.2, by have := read_len hk; omega⟩, rfl⟩
/-! ### the answers -/
abbrev nz (l : List Nat) : List Int := l.map fun (n : Nat) => (n : Int)
theorem nz_len (l : List Nat) : (nz l).length = l.length := List.length_map _
theorem nats_nz : ∀ l : List Nat, FlagBNeutral.nats? (nz l) = some l
  | [] => rfl
  | x :: l => by
    have ih := nats_nz l
    unfold FlagBNeutral.nats? at ih ⊢
    show List.mapM FlagBNeutral.nat? ((x : Int) :: nz l) = _
    rw [List.mapM_cons, ih]
    have : FlagBNeutral.nat? (x : Int) = some x := by
      unfold FlagBNeutral.nat?
      rw [if_pos (by omega), Int.toNat_natCast]
    rw [this]
    rfl
theorem nat_nz (x : Nat) : FlagBNeutral.nat? (x : Int) = some x := by
  unfold FlagBNeutral.nat?
  rw [if_pos (by omega), Int.toNat_natCast]
theorem nz_of : ∀ {l : List Int}, (∀ x ∈ l, 0 ≤ x) → ∃ n : List Nat, l = nz n
  | [], _ => ⟨[], rfl⟩
  | x :: l, h => by
    obtain ⟨n, e⟩ := nz_of (l := l) fun y hy => h y (List.mem_cons_of_mem _ hy)
    have := h x (List.mem_cons_self ..)
    refine ⟨x.toNat :: n, ?_⟩
    show x :: l = ((x.toNat : Nat) : Int) :: nz n
    rw [e, Int.toNat_of_nonneg this]
def fMany (m : Nat) : Locker → Reply := fun L => if FlagsB.isCounted m = false then BAD else tells 0 [L.countFrom m []]
def fNth (m i : Nat) : Locker → Reply := fun L => if FlagsB.isCounted m = false then BAD else match L.nthFrom m [] i with
  | some r => tells (m : Nat) r
  | none => NO
def fNumber (r : Row) : Locker → Reply := fun L => if FlagsB.isCounted r.length = false then BAD else if L.isRow r = false then NO else if L.canShow r = true then tells 0 [L.numberFrom [] r] else NONE
def fShows (lens signs : List Nat) : Locker → Reply := fun L => if FlagsB.lensOk lens signs = false then BAD else if L.areRows (FlagsB.cutRows lens signs) = false then NO else match L.display (FlagsB.cutRows lens signs) with
  | some f => tells (f.length : Nat) (L.samesIn f :: f)
  | none => NONE
theorem many_top {t : List Int} (ht : ∀ x ∈ t, 0 ≤ x ∧ x ≤ 255) (m : Nat) : TopR t (PyWqbact.many m t) (fMany m) := by
  obtain ⟨b, eb, et⟩ := text_some ht
  have e0 : PyWqbact.many m t = enc (FlagsB.answer (.many b m)) := by
    unfold PyWqbact.many FlagBNeutral.f
    have : FlagBNeutral.callOf [[3, (m : Int)], t] = some (.many b m) := by
      show (do return FlagsB.Call.many (← FlagBNeutral.text? t) (← FlagBNeutral.nat? (m : Int))) = _
      rw [et, nat_nz]
      rfl
    rw [this]
    rfl
  rw [e0]
  exact top_r eb _
theorem nth_top {t : List Int} (ht : ∀ x ∈ t, 0 ≤ x ∧ x ≤ 255) (m i : Nat) : TopR t (PyWqbact.nth m i t) (fNth m i) := by
  obtain ⟨b, eb, et⟩ := text_some ht
  have e0 : PyWqbact.nth m i t = enc (FlagsB.answer (.nth b m i)) := by
    unfold PyWqbact.nth FlagBNeutral.f
    have : FlagBNeutral.callOf [[4, (m : Int), (i : Int)], t] = some (.nth b m i) := by
      show (do return FlagsB.Call.nth (← FlagBNeutral.text? t) (← FlagBNeutral.nat? (m : Int)) (← FlagBNeutral.nat? (i : Int))) = _
      rw [et, nat_nz, nat_nz]
      rfl
    rw [this]
    rfl
  rw [e0]
  exact top_r eb _
theorem number_top {t : List Int} (ht : ∀ x ∈ t, 0 ≤ x ∧ x ≤ 255) (r : Row) : TopR t (PyWqbact.number t (nz r)) (fNumber r) := by
  obtain ⟨b, eb, et⟩ := text_some ht
  have e0 : PyWqbact.number t (nz r) = enc (FlagsB.answer (.number b r)) := by
    unfold PyWqbact.number FlagBNeutral.f
    have : FlagBNeutral.callOf [[5], t, nz r] = some (.number b r) := by
      show (do return FlagsB.Call.number (← FlagBNeutral.text? t) (← FlagBNeutral.nats? (nz r))) = _
      rw [et, nats_nz]
      rfl
    rw [this]
    rfl
  rw [e0]
  exact top_r eb _
theorem shows_top {t : List Int} (ht : ∀ x ∈ t, 0 ≤ x ∧ x ≤ 255) (lens signs : List Nat) : TopR t (PyWqbact.shows t (nz lens) (nz signs)) (fShows lens signs) := by
  obtain ⟨b, eb, et⟩ := text_some ht
  have e0 : PyWqbact.shows t (nz lens) (nz signs) = enc (FlagsB.answer (.shows b lens signs)) := by
    unfold PyWqbact.shows FlagBNeutral.f
    have : FlagBNeutral.callOf [[2], t, nz lens, nz signs] = some (.shows b lens signs) := by
      show (do return FlagsB.Call.shows (← FlagBNeutral.text? t) (← FlagBNeutral.nats? (nz lens)) (← FlagBNeutral.nats? (nz signs))) = _
      rw [et, nats_nz, nats_nz]
      rfl
    rw [this]
    rfl
  rw [e0]
  exact top_r eb _
theorem enc_says (z : Int) : enc (says z) = [z] := rfl
theorem enc_tells (z : Int) (l : List Nat) : enc (tells z l) = z :: nz l := by
  show z :: (nz l ++ []) = z :: nz l
  rw [List.append_nil]
/-! ### rows cut -/
theorem cut_all (L : Locker) : ∀ {lens signs : List Nat}, lens.sum = signs.length → (∀ n ∈ lens, FlagsB.isLength n = true) → (FlagsB.cutRows lens signs).all L.isRow = signs.all L.isSignAt
  | [], signs, h, _ => by
    have : signs = [] := List.eq_nil_of_length_eq_zero (by simpa using h.symm)
    subst this
    rfl
  | n :: lens, signs, h, hl => by
    rw [List.sum_cons] at h
    have hn := hl n (List.mem_cons_self ..)
    unfold FlagsB.isLength at hn
    rw [Bool.and_eq_true, decide_eq_true_eq, decide_eq_true_eq] at hn
    have ht : (signs.take n).length = n := by rw [List.length_take]; omega
    have ih := cut_all L (lens := lens) (signs := signs.drop n) (by rw [List.length_drop]; omega) fun x hx => hl x (List.mem_cons_of_mem _ hx)
    show (L.isRow (signs.take n) && (FlagsB.cutRows lens (signs.drop n)).all L.isRow) = _
    rw [ih]
    have e : L.isRow (signs.take n) = (signs.take n).all L.isSignAt := by
      unfold Locker.isRow
      rw [ht, decide_eq_true hn.1, decide_eq_true hn.2]
      rfl
    rw [e, ← List.all_append, List.take_append_drop]
theorem cut_length : ∀ (lens signs : List Nat), (FlagsB.cutRows lens signs).length = lens.length
  | [], _ => rfl
  | n :: lens, signs => by
    show (FlagsB.cutRows lens (signs.drop n)).length + 1 = _
    rw [cut_length lens]
    rfl
theorem lens_ok {lens signs : List Nat} : FlagsB.lensOk lens signs = true ↔ 1 ≤ lens.length ∧ lens.length ≤ 4 ∧ (∀ n ∈ lens, FlagsB.isLength n = true) ∧ lens.sum = signs.length := by
  unfold FlagsB.lensOk
  rw [Bool.and_eq_true, Bool.and_eq_true, Bool.and_eq_true, decide_eq_true_eq, decide_eq_true_eq, List.all_eq_true, beq_iff_eq]
  exact Iff.rfl
theorem areRows_is (L : Locker) {lens signs : List Nat} (h : FlagsB.lensOk lens signs = true) : L.areRows (FlagsB.cutRows lens signs) = signs.all L.isSignAt := by
  obtain ⟨h1, h2, h3, h4⟩ := lens_ok.mp h
  unfold Locker.areRows
  rw [cut_length, cut_all L h4 h3, decide_eq_true h1]
  have : decide (lens.length ≤ MOST) = true := decide_eq_true h2
  rw [this]
  rfl
theorem cut_mem : ∀ {lens signs : List Nat} {r : Row}, r ∈ FlagsB.cutRows lens signs → ∀ s ∈ r, s ∈ signs
  | [], _, _, h => by cases h
  | n :: lens, signs, r, h => by
    rcases List.mem_cons.mp h with e | m
    · subst e
      intro s hs
      exact List.mem_of_mem_take hs
    · intro s hs
      exact List.mem_of_mem_drop (cut_mem m s hs)
theorem spots_len (L : Locker) : ∀ {lens signs : List Nat}, (L.spots (FlagsB.cutRows lens signs)).length ≤ signs.length
  | [], _ => Nat.zero_le _
  | n :: lens, signs => by
    show (L.spots (signs.take n :: FlagsB.cutRows lens (signs.drop n))).length ≤ _
    have ih := spots_len L (lens := lens) (signs := signs.drop n)
    rw [spots_cons, List.length_append, spotsOf_len, List.length_take]
    rw [List.length_drop] at ih
    omega
/-! ### sames of a display -/
theorem same_or_sign {L : Locker} {l : List Spot} (ok : SpotsOk L.sameKinds l) (hs : ∀ p ∈ l, L.isSignAt p.sign = true) {left fs : List Nat} (h : Fill left l fs) {f : Nat} (hf : f ∈ fs) : isSame L f = !L.isSignAt f ∧ f < L.kinds.length := by
  obtain ⟨p, hp, e | m⟩ := fill_kinds L h f hf
  · have h1 := hs p hp
    rw [← e] at h1
    have hlt : f < L.kinds.length := by
      have := signList_mem.mpr h1
      unfold Locker.signList at this
      exact List.mem_range.mp (List.mem_filter.mp this).1
    refine ⟨?_, hlt⟩
    rw [h1, Bool.not_true, ← Bool.not_eq_true]
    intro q
    have : f ∈ L.sameKinds := by rw [same_is, List.mem_filter, List.mem_range]; exact ⟨hlt, q⟩
    rw [same_not_sign this] at h1
    cases h1
  · have h1 := ok.may p hp f m
    rw [same_not_sign h1]
    rw [same_is, List.mem_filter, List.mem_range] at h1
    exact ⟨h1.2, h1.1⟩
theorem spots_signs {L : Locker} {rows : List Row} (h : ∀ r ∈ rows, ∀ s ∈ r, L.isSignAt s = true) : ∀ p ∈ L.spots rows, L.isSignAt p.sign = true := fun p hp => by
  obtain ⟨r, hr, hs, _⟩ := spots_sign hp
  exact h r hr _ hs
end Sh
set_option Elab.async false
set_option linter.all false
namespace Sh
open Flags M
/-! ### a tally -/
def putN (kvs : List (Nat × Nat)) (s n : Nat) : List (Nat × Nat) := if (kvs.any fun p => decide (p.1 = s)) = true then kvs.map (fun p => if p.1 = s then (p.1, n) else p) else kvs ++ [(s, n)]
structure Tal (kvs : List (Nat × Nat)) (f : Nat → Nat) : Prop where
  nd : (kvs.map (·.1)).Nodup
  val : ∀ p ∈ kvs, p.2 = f p.1 ∧ 0 < p.2
  all : ∀ s, 0 < f s → s ∈ kvs.map (·.1)
theorem tal_nil : Tal [] fun _ => 0 := ⟨List.nodup_nil, fun p hp => (by cases hp), fun s h => absurd h (Nat.lt_irrefl _)⟩
theorem Tal.same {kvs : List (Nat × Nat)} {f g : Nat → Nat} (t : Tal kvs f) (h : ∀ s, f s = g s) : Tal kvs g := by
  have : f = g := funext h
  rw [← this]
  exact t
theorem Tal.put {kvs : List (Nat × Nat)} {f : Nat → Nat} (t : Tal kvs f) (s : Nat) : Tal (putN kvs s (f s + 1)) fun x => f x + if x = s then 1 else 0 := by
  unfold putN
  by_cases a : (kvs.any fun p => decide (p.1 = s)) = true
  · rw [if_pos a]
    have ek : (kvs.map (fun p => if p.1 = s then (p.1, f s + 1) else p)).map (·.1) = kvs.map (·.1) := by
      rw [List.map_map]
      refine List.map_congr_left fun p _ => ?_
      show (if p.1 = s then (p.1, f s + 1) else p).1 = p.1
      split <;> rfl
    refine ⟨by rw [ek]; exact t.nd, fun p hp => ?_, fun x hx => ?_⟩
    · obtain ⟨q, hq, rfl⟩ := List.mem_map.mp hp
      have v := t.val q hq
      by_cases e : q.1 = s
      · rw [if_pos e]
        show f s + 1 = f q.1 + (if q.1 = s then 1 else 0) ∧ 0 < f s + 1
        rw [if_pos e, e]
        exact ⟨rfl, Nat.succ_pos _⟩
      · rw [if_neg e]
        show q.2 = f q.1 + (if q.1 = s then 1 else 0) ∧ 0 < q.2
        rw [if_neg e]
        exact v
    · rw [ek]
      by_cases e : x = s
      · obtain ⟨p, hp, q⟩ := List.any_eq_true.mp a
        rw [e, ← of_decide_eq_true q]
        exact List.mem_map.mpr ⟨p, hp, rfl⟩
      · have hx : 0 < f x + if x = s then 1 else 0 := hx
        rw [if_neg e] at hx
        exact t.all x hx
  · rw [if_neg a]
    have hn : ∀ p ∈ kvs, ¬ p.1 = s := fun p hp e => a (List.any_eq_true.mpr ⟨p, hp, decide_eq_true e⟩)
    refine ⟨?_, fun p hp => ?_, fun x hx => ?_⟩
    · rw [List.map_append]
      refine List.nodup_append.mpr ⟨t.nd, List.nodup_cons.mpr ⟨by simp, List.nodup_nil⟩, fun x hx y hy e => ?_⟩
      obtain ⟨p, hp, q⟩ := List.mem_map.mp hx
      have hy : y = s := List.mem_singleton.mp hy
      exact hn p hp (q.trans (e.trans hy))
    · rcases List.mem_append.mp hp with m | m
      · have v := t.val p m
        show p.2 = f p.1 + (if p.1 = s then 1 else 0) ∧ 0 < p.2
        rw [if_neg (hn p m)]
        exact v
      · rw [List.mem_singleton.mp m]
        show f s + 1 = f s + (if s = s then 1 else 0) ∧ 0 < f s + 1
        rw [if_pos rfl]
        exact ⟨rfl, Nat.succ_pos _⟩
    · rw [List.map_append]
      by_cases e : x = s
      · exact List.mem_append_right _ (List.mem_singleton.mpr e)
      · have hx : 0 < f x + if x = s then 1 else 0 := hx
        rw [if_neg e] at hx
        exact List.mem_append_left _ (t.all x hx)
theorem putN_len (kvs : List (Nat × Nat)) (s n : Nat) : (putN kvs s n).length ≤ kvs.length + 1 := by
  unfold putN
  split
  · rw [List.length_map]; omega
  · rw [List.length_append, List.length_singleton]; exact Nat.le_refl _
theorem Tal.sum {kvs : List (Nat × Nat)} {f : Nat → Nat} (t : Tal kvs f) (g : Nat → Nat) {Z : List Nat} (hZ : Z.Nodup) (h : ∀ s, 0 < f s → s ∈ Z) : (kvs.map fun p => p.2 - g p.1).sum = S (fun s => f s - g s) Z := by
  rw [S_sum]
  have e : S (fun p : Nat × Nat => p.2 - g p.1) kvs = S (fun p : Nat × Nat => f p.1 - g p.1) kvs := S_eq fun p hp => by rw [(t.val p hp).1]
  rw [e, ← S_map (fun s => f s - g s) (fun p : Nat × Nat => p.1)]
  refine S_support t.nd hZ (fun x _ hn => ?_) (fun x _ hn => ?_)
  · have : ¬ 0 < f x := fun q => hn (h x q)
    omega
  · have : ¬ 0 < f x := fun q => hn (t.all x q)
    omega
/-! ### places bound to chosen sames, one by one -/
theorem bnd_snoc (ws : List (List Nat)) (A ch : List Nat) (s : Nat) : bnd (ws ++ [A]) ch s = bnd ws ch s + if (A.tail.all fun f => ch.contains f) = true then (if s = A.headD 0 then 1 else 0) else 0 := by
  unfold bnd
  rw [List.countP_append, List.countP_cons, List.countP_nil, Nat.zero_add]
  congr 1
  cases h : (A.tail.all fun f => ch.contains f) with
  | false => rw [Bool.and_false]; rfl
  | true =>
    rw [Bool.and_true, if_pos rfl]
    by_cases e : s = A.headD 0
    · rw [if_pos e, if_pos (beq_iff_eq.mpr e.symm)]
    · rw [if_neg e, if_neg (fun q => e (beq_iff_eq.mp q).symm)]
theorem bnd_head {wanted : List (List Nat)} {ch : List Nat} {s : Nat} (h : 0 < bnd wanted ch s) : s ∈ (wanted.map fun A => A.headD 0).eraseDups := by
  unfold bnd at h
  obtain ⟨A, hA, q⟩ := List.countP_pos_iff.mp h
  rw [Bool.and_eq_true, beq_iff_eq] at q
  rw [List.mem_eraseDups, List.mem_map]
  exact ⟨A, hA, q.1⟩
theorem Tal.bound {kvs : List (Nat × Nat)} {wanted : List (List Nat)} {left ch : List Nat} (t : Tal kvs (bnd wanted ch)) : (kvs.map fun p => p.2 - left.getD p.1 0).sum = bound wanted left ch :=
  t.sum (fun s => left.getD s 0) (nodup_eraseDups _ _ (Nat.le_refl _)) fun s h => bnd_head h
/-! ### less1 by a list's own words -/
theorem less1_len (left : List Nat) (f : Nat) : (less1 left f).length = left.length := by
  unfold less1
  rw [List.length_set]
theorem sum_S (left : List Nat) (ch : List Nat) : (ch.map fun f => left.getD f 0).sum = S (fun f => left.getD f 0) ch := S_sum _ _
end Sh
namespace Sh
open Flags M
theorem TopR.refused {t R : List Int} {F : Locker → Reply} (h : TopR t R F) (hr : readT t = none) : R = if 65536 < t.length then [-2] else [-6] := by
  unfold readT at hr
  by_cases h1 : 65536 < t.length
  · rw [if_pos h1]
    exact h.long h1
  · rw [if_neg h1] at hr ⊢
    exact h.wrong h1 hr
theorem TopR.taken {t R : List Int} {F : Locker → Reply} (h : TopR t R F) {ks : List KD} (hr : readT t = some ks) : ∃ L, LK L ks ∧ R = enc (F L) := by
  unfold readT at hr
  by_cases h1 : 65536 < t.length
  · rw [if_pos h1] at hr
    cases hr
  · rw [if_neg h1] at hr
    exact h.good h1 ks hr
end Sh
set_option Elab.async false
set_option linter.all false
set_option maxRecDepth 100000
namespace Fl
open PySem PySem.Spec PyProof.Rows L2
open PySem.W (Codec)
/-! ### constants of the module, defs as promises -/
section
variable {X : Cx}
theorem pe_gi {x : Str} {i : Int} {pos : Pos} (h : ∃ t, X.mg x = some (.int i t)) (hg : Gl X x := by rfl) (hd : (x == ("__debug__" : Str)) = false := by decide) : PE X (.Name x pos) (tC (.int i)) := by
  obtain ⟨t, h⟩ := h
  exact pe_glob hg h ⟨t, rfl⟩ hd
theorem pe_gs {x : Str} {y : Str} {pos : Pos} (h : ∃ t, X.mg x = some (.str y t)) (hg : Gl X x := by rfl) (hd : (x == ("__debug__" : Str)) = false := by decide) : PE X (.Name x pos) (tC (.str y)) := by
  obtain ⟨t, h⟩ := h
  exact pe_glob hg h ⟨t, rfl⟩ hd
theorem pe_gr {x : Str} {a : Addr} {pos : Pos} (h : X.mg x = some (.ref a)) (hg : Gl X x := by rfl) (hd : (x == ("__debug__" : Str)) = false := by decide) : PE X (.Name x pos) (tC (.ref a)) :=
  pe_glob hg h rfl hd
end
structure Dn (P : Program) (w : World) (K : PySem.W.Frag) (mg : Str → Option Value) (base : Heap) (k : Nat) (x : Str) (ps : List Str) (sp : Sp) : Prop where
  ex : ∃ (f : Addr) (fd : FuncData), FnOk P w K mg base CX0 k f fd ps sp ∧ mg x = some (.ref f) ∧ PySem.W.keepIn K (.ref f) = true ∧ Binds K fd ps []
structure Tx (K : PySem.W.Frag) (mg : Str → Option Value) (x : Str) (ps : List Str) (st : Stmt) : Prop where
  ex : ∃ (f : Addr) (fd : FuncData), Fun K x x st f fd ∧ mg x = some (.ref f) ∧ Binds K fd ps []
section
variable {P : Program} {w : World} {K : PySem.W.Frag} {mg : Str → Option Value} {base : Heap}
theorem Tx.dn {x : Str} {ps N : List Str} {st : Stmt} {k : Nat} {sp : Sp} (T : Tx K mg x ps st) (S : FnScope N ps (defScope st)) (len : ∀ vs H Q E, sp vs H Q E → vs.length = ps.length)
    (hbody : ∀ (f : Addr) (cdv : Value) (A : Around) (outer : List Env) (s : Shared) (H : Hp) (vs : List V) (Q : VK) (E : XK), Room k (A.deeper (envOfC x (defScope st) s.heap.objs.size f cdv)) → sp vs H Q E →
      ∃ t, PSs (cxOf CX0 P w K mg base N x (defScope st) f cdv A outer s H E).nox (defBody st) t ∧ t { nx := fun _ H' => Q .non H', rt := Q } (start N vs) H) : Dn P w K mg base (k + 1) x ps sp := by
  obtain ⟨f, fd, F, m, b⟩ := T.ex
  exact ⟨f, fd, F.ok S len (fun cdv A outer s H vs Q E hr h => hbody f cdv A outer s H vs Q E hr h), m, F.kp, b⟩
end
theorem pe_cd {X : Cx} {k k' : Nat} {x : Str} {ps : List Str} {sp : Sp} {p pos : Pos} {e : Expr} {es : List Expr} {t : TA} (D : Dn X.prog X.w X.K X.mg X.base k x ps sp) (hr : Room k' X.A) (hk : k ≤ k') (hg : Gl X x) (ha : PA X (e :: es) t)
    (hdb : (x == ("__debug__" : Str)) = false := by decide) (he : starEach (e :: es) X.env = (false, eval e X.env) :: starEach es X.env := by rfl) (hpl : (backTo pos (starEach es X.env)).any (·.1) = false := by rfl) :
    PE X (.Call (.Name x p) (e :: es) [] pos) (tCall sp [] E0 t) := by
  obtain ⟨f, fd, F, m, kp, b⟩ := D.ex
  exact pe_call F (hr.mono hk) hg m kp b .nil pass0 ha hdb he hpl
/-! ### a class with an __init__ of its own -/
structure Cn (P : Program) (w : World) (K : PySem.W.Frag) (mg : Str → Option Value) (base : Heap) (k : Nat) (x : Str) (C : Addr) (ps : List Str) (sp : Sp) : Prop where
  ex : ∃ (f : Addr) (fd : FuncData), FnOk P w K mg base CX0 k f fd ps sp ∧ mg x = some (.ref C) ∧ Mk K C f ∧ Binds K fd ps []
theorem pe_mk {X : Cx} {k k' : Nat} {x : Str} {C : Addr} {ps : List Str} {sp : Sp} {p pos : Pos} {e : Expr} {es : List Expr} {t : TA} (D : Cn X.prog X.w X.K X.mg X.base k x C ps sp) (hr : Room k' X.A) (hk : k + 1 ≤ k') (hg : Gl X x) (ha : PA X (e :: es) t)
    (hdb : (x == ("__debug__" : Str)) = false := by decide) (he : starEach (e :: es) X.env = (false, eval e X.env) :: starEach es X.env := by rfl) (hpl : (backTo pos (starEach es X.env)).any (·.1) = false := by rfl) :
    PE X (.Call (.Name x p) (e :: es) [] pos) (tMake C sp [] E0 t) := by
  obtain ⟨f, fd, F, m, M, b⟩ := D.ex
  exact pe_make M F (hr.mono hk) hg m b .nil pass0 ha hdb he hpl
/-! ### loops over a text's signs and over numbered items -/
theorem lc_str {x : Str} {g : TG} {tt : TT} {te : TE} {vs : List Nat} {σ : L2.St} {H1 : Hp} {D : Addr} {Qd : Hp → Prop} (Pv : Nat → Hp → Prop) (h0 : Pv 0 (upd H1 D (.lst [])))
    (hs : ∀ i c H, x.cps[i]? = some c → Pv i H → g (.str ⟨#[c]⟩) (wipe σ vs) H fun σ2 H2 => wipe σ2 vs = wipe σ vs ∧ tt σ2 H2 fun b H3 =>
      if b = true then te σ2 H3 fun y H4 => ∃ acc, H4 D = some (.lst acc) ∧ acc.length < sizeLine ∧ Pv (i + 1) (upd H4 D (.lst (acc ++ [y]))) else Pv (i + 1) H3) (hd : ∀ H, Pv x.cps.size H → Qd H) :
    ∃ W : Nat → Nat → Hp → Prop, (∃ m, W 0 m (upd H1 D (.lst []))) ∧ ∀ i m H, W i m H →
      ((Its x).stop i H ∧ Qd H) ∨ ((Its x).go i H ∧ ∃ Nx : Hp → Prop, (∀ H', Nx H' → ∃ m', m' < m ∧ W (i + 1) m' H') ∧ ∀ y H', (Its x).yld i H y H' → g y (wipe σ vs) H' fun σ2 H2 => wipe σ2 vs = wipe σ vs ∧ tt σ2 H2 fun b H3 =>
        if b = true then te σ2 H3 fun y H4 => ∃ acc, H4 D = some (.lst acc) ∧ acc.length < sizeLine ∧ Nx (upd H4 D (.lst (acc ++ [y]))) else Nx H3) := by
  refine ⟨fun i m H => m = x.cps.size - i ∧ i ≤ x.cps.size ∧ Pv i H, ⟨x.cps.size, by simp, Nat.zero_le _, h0⟩, ?_⟩
  rintro i m H ⟨rfl, hi, p⟩
  by_cases hlt : i < x.cps.size
  · refine .inr ⟨hlt, Pv (i + 1), fun H' p' => ⟨x.cps.size - (i + 1), by omega, rfl, hlt, p'⟩, fun y H' q => ?_⟩
    obtain ⟨e, c, hc, rfl⟩ := q
    subst e
    exact hs i c _ hc p
  · have e : i = x.cps.size := by omega
    subst e
    exact .inl ⟨Nat.le_refl _, hd H p⟩
theorem for_enum {K : PySem.W.Frag} {a : Addr} {xs : List V} {g : TG} {tb : TS} {D : Ends} {σ : L2.St} {H : Hp} (Pv : Nat → L2.St → Hp → Prop) (h0 : Pv 0 σ H) (hl : ∀ i σ H, i ≤ xs.length → Pv i σ H → SqL K H a xs)
    (hs : ∀ i x σ H T, xs[i]? = some x → Pv i σ H → H T = none → g (.ref T) σ (upd H T (.tup [.int (i : Nat), x])) fun σ2 H2 => tb { D with nx := Pv (i + 1), ct := Pv (i + 1), bk := D.nx } σ2 H2) (hd : ∀ σ H, Pv xs.length σ H → D.nx σ H) :
    ∃ W : Nat → Nat → L2.St → Hp → Prop, (∃ m, W 0 m σ H) ∧ ∀ i m σ H, W i m σ H →
      ((Ite K a).stop i H ∧ D.nx σ H) ∨ ((Ite K a).go i H ∧ ∃ N : L2.St → Hp → Prop, (∀ σ' H', N σ' H' → ∃ m', m' < m ∧ W (i + 1) m' σ' H') ∧ ∀ x H', (Ite K a).yld i H x H' → g x σ H' fun σ2 H2 => tb { D with nx := N, ct := N, bk := D.nx } σ2 H2) := by
  refine ⟨fun i m σ H => m = xs.length - i ∧ i ≤ xs.length ∧ Pv i σ H, ⟨xs.length, by simp, Nat.zero_le _, h0⟩, ?_⟩
  rintro i m σ H ⟨rfl, hi, p⟩
  have q := hl i σ H hi p
  by_cases hlt : i < xs.length
  · refine .inr ⟨⟨xs, xs[i], q, by simp [hlt]⟩, Pv (i + 1), fun σ' H' p' => ⟨xs.length - (i + 1), by omega, rfl, hlt, p'⟩, fun x H' y => ?_⟩
    obtain ⟨T, z, rfl, hT, rfl, y⟩ := y
    exact hs i z σ H T (y xs q) p hT
  · have e : i = xs.length := by omega
    subst e
    exact .inl ⟨⟨xs, q, Nat.le_refl _⟩, hd σ H p⟩
/-! ### list.count of flat items -/
section
variable {X : Cx}
theorem countP_eqU {x : V} : ∀ {xs : List V} {us : List Value}, Vals xs us → xs.all flatV = true → us.countP (eqU x) = xs.countP fun y => eqV y x
  | _, _, .nil, _ => rfl
  | y :: xs, u :: us, .cons r t, f => by
    rw [List.all_cons, Bool.and_eq_true] at f
    rw [List.countP_cons, List.countP_cons, eqU_of r f.1, countP_eqU t f.2]
def rCount (K : PySem.W.Frag) : V → List V → Hp → VK → Prop := fun x xs H Q => ∃ (a : Addr) (ys : List V) (y : V), x = V.ref a ∧ xs = [y] ∧ SqL K H a ys ∧ flatV y = true ∧ ys.all flatV = true ∧ Q (.int ((ys.countP fun z => eqV z y : Nat) : Int)) H
theorem mt_count : MtR X "list.count" (rCount X.K) := by
  intro pins s σ H x xs v us Q I rx rxs h
  obtain ⟨a, ys, y, rfl, rfl, hs, fy, fys, q⟩ := h
  cases rx
  cases rxs with
  | cons ry rt =>
    rename_i uy ut
    cases rt
    obtain ⟨its, rv, ⟨⟨cls, dd, data, sl⟩, n, ho, hc, hdn, hd⟩, hlen⟩ := I.list hs
    simp only at hc hd
    subst hc hd
    refine call_meets PySem.F.slot_list_count ⟨_, ho, rfl⟩ PySem.F.entry_list_count (PySem.F.args_list_count_2 _ _)
      (SeqAt.list_countAt a its.toArray n dd sl uy (eqU y)) ⟨ho, fun u' hu' => mem_eqAt ry fy rv fys u' (by simpa using hu'), ?_⟩
    refine ⟨.int _, H, I.tok _, ⟨_, rfl⟩, ?_⟩
    rw [show its.toArray.toList = its by simp, countP_eqU rv fys]
    exact q
end
/-! ### flat lists of zs -/
abbrev zs (l : List Int) : List V := l.map V.int
theorem flat_ints : ∀ l : List Int, (zs l).all flatV = true
  | [] => rfl
  | x :: l => by
    show (true && (zs l).all flatV) = true
    rw [flat_ints l]
    rfl
theorem inV_ints (z : Int) : ∀ l : List Int, inV (.int z) (zs l) = l.contains z
  | [] => rfl
  | x :: l => by
    show (x == z || inV (.int z) (zs l)) = _
    rw [inV_ints z l, List.contains_cons]
    congr 1
    rw [Bool.eq_iff_iff, beq_iff_eq, beq_iff_eq]
    exact ⟨Eq.symm, Eq.symm⟩
theorem count_ints (z : Int) : ∀ l : List Int, ((zs l).countP fun y => eqV y (.int z)) = l.count z
  | [] => rfl
  | x :: l => by
    show (V.int x :: zs l).countP _ = _
    rw [List.countP_cons, List.count_cons, count_ints z l]
    rfl
theorem ints_len (l : List Int) : (zs l).length = l.length := List.length_map _
theorem ints_at {l : List Int} {i : Nat} {y : V} (h : (zs l)[i]? = some y) : ∃ z, l[i]? = some z ∧ y = V.int z := by
  rw [List.getElem?_map] at h
  cases e : l[i]? with
  | none => rw [e] at h; cases h
  | some z => rw [e] at h; exact ⟨z, rfl, (Option.some.inj h).symm⟩
theorem refs_at {l : List Addr} {i : Nat} {y : V} (h : (l.map V.ref)[i]? = some y) : ∃ z, l[i]? = some z ∧ y = V.ref z := by
  rw [List.getElem?_map] at h
  cases e : l[i]? with
  | none => rw [e] at h; cases h
  | some z => rw [e] at h; exact ⟨z, rfl, (Option.some.inj h).symm⟩
theorem take_snoc {α : Type} : ∀ {l : List α} {i : Nat} {x : α}, l[i]? = some x → l.take (i + 1) = l.take i ++ [x]
  | [], i, x, h => by simp at h
  | a :: l, 0, x, h => by
    have e : a = x := Option.some.inj h
    subst e
    rfl
  | a :: l, i + 1, x, h => by
    have ih := take_snoc (l := l) (i := i) (x := x) h
    show a :: l.take (i + 1) = a :: l.take i ++ [x]
    rw [ih]
    rfl
theorem drop_cons {α : Type} : ∀ {l : List α} {i : Nat} {x : α}, l[i]? = some x → l.drop i = x :: l.drop (i + 1)
  | [], i, x, h => by simp at h
  | a :: l, 0, x, h => by
    have e : a = x := Option.some.inj h
    subst e
    rfl
  | a :: l, i + 1, x, h => by
    have ih := drop_cons (l := l) (i := i) (x := x) h
    show l.drop i = x :: l.drop (i + 1)
    exact ih
theorem Same.upd_new {H H' : Hp} {p : Addr} {o : HO} (s : Same H H') (h : H' p = none) : Same H (upd H' p o) := fun b u e => by
  rw [upd_ne (ne_of_none (s b u e) h)]
  exact s b u e
theorem Same.upd_own {H H' : Hp} {p : Addr} {o : HO} (s : Same H H') (h : H p = none) : Same H (upd H' p o) := fun b u e => by
  rw [upd_ne (ne_of_none e h)]
  exact s b u e
/-! ### lists of words -/
def LI (H : Hp) (a : Addr) (w : List Int) : Prop := H a = some (.lst (zs w))
def WS (H : Hp) (as : List Addr) (ws : List (List Int)) : Prop := M.All2 (fun a w => LI H a w) as ws
theorem LI.same {H H' : Hp} {a : Addr} {w : List Int} (h : LI H a w) (s : Same H H') : LI H' a w := s _ _ h
theorem WS.same {H H' : Hp} {as : List Addr} {ws : List (List Int)} (h : WS H as ws) (s : Same H H') : WS H' as ws := M.All2.imp (fun _ _ q => s _ _ q) h
theorem LI.sq {K : PySem.W.Frag} {H : Hp} {a : Addr} {w : List Int} (h : LI H a w) : SqL K H a (zs w) := SqL.of h
/-! ### data for == -/
def di (w : List Int) : PyData := .list (w.map PyData.int)
def dd (ws : List (List Int)) : PyData := .list (ws.map di)
theorem dpAll_ints {K : PySem.W.Frag} {H : Hp} : ∀ w : List Int, DpAll K H (zs w) (w.map PyData.int)
  | [] => .nil
  | x :: w => .cons (.int x) (dpAll_ints w)
theorem dp_sq {K : PySem.W.Frag} {H : Hp} {a : Addr} {w : List Int} (h : SqL K H a (zs w)) : Dp K H (.ref a) (di w) := .lst h (dpAll_ints w)
theorem dpAll_ws {K : PySem.W.Frag} {H : Hp} : ∀ {as : List Addr} {ws : List (List Int)}, WS H as ws → DpAll K H (as.map V.ref) (ws.map di)
  | _, _, .nil => .nil
  | _, _, .cons h t => .cons (dp_sq (SqL.of h)) (dpAll_ws t)
theorem dp_ws {K : PySem.W.Frag} {H : Hp} {a : Addr} {as : List Addr} {ws : List (List Int)} (h : H a = some (.lst (as.map V.ref))) (q : WS H as ws) : Dp K H (.ref a) (dd ws) := .lst (SqL.of h) (dpAll_ws q)
theorem eqvAll_ints : ∀ a b : List Int, PyData.eqvAll (a.map PyData.int) (b.map PyData.int) = decide (a = b)
  | [], [] => by simp [PyData.eqvAll]
  | [], _ :: _ => by simp [PyData.eqvAll]
  | _ :: _, [] => by simp [PyData.eqvAll]
  | x :: a, y :: b => by
    show PyData.eqvAll (PyData.int x :: a.map PyData.int) (PyData.int y :: b.map PyData.int) = _
    rw [PyData.eqvAll, PyData.eqv, eqvAll_ints a b, Bool.eq_iff_iff]
    simp
theorem eqv_di (a b : List Int) : PyData.eqv (di a) (di b) = decide (a = b) := by
  unfold di
  rw [PyData.eqv]
  exact eqvAll_ints a b
theorem eqvAll_di : ∀ a b : List (List Int), PyData.eqvAll (a.map di) (b.map di) = decide (a = b)
  | [], [] => by simp [PyData.eqvAll]
  | [], _ :: _ => by simp [PyData.eqvAll]
  | _ :: _, [] => by simp [PyData.eqvAll]
  | x :: a, y :: b => by
    show PyData.eqvAll (di x :: a.map di) (di y :: b.map di) = _
    rw [PyData.eqvAll, eqv_di, eqvAll_di a b, Bool.eq_iff_iff]
    simp
theorem eqv_dd (a b : List (List Int)) : PyData.eqv (dd a) (dd b) = decide (a = b) := by
  unfold dd
  rw [PyData.eqv]
  exact eqvAll_di a b
end Fl
namespace Fl
open PySem PySem.Spec PyProof.Rows L2
theorem canAll_ints : ∀ w : List Int, PyData.canLayAll0 (w.map PyData.int) = true
  | [] => by simp [PyData.canLayAll0]
  | x :: w => by
    show PyData.canLayAll0 (PyData.int x :: w.map PyData.int) = true
    rw [PyData.canLayAll0, canAll_ints w, PyData.canLay0]
    rfl
theorem depAll_ints : ∀ w : List Int, PyData.depthAll (w.map PyData.int) = 0
  | [] => by simp [PyData.depthAll]
  | x :: w => by
    show PyData.depthAll (PyData.int x :: w.map PyData.int) = 0
    rw [PyData.depthAll, depAll_ints w, PyData.depth]
    rfl
theorem shaped_di (w : List Int) : SeqAt.shaped (di w) = true := by
  unfold SeqAt.shaped di
  rw [PyData.canLay0, PyData.depth, canAll_ints, depAll_ints]
  rfl
theorem canAll_di : ∀ ws : List (List Int), PyData.canLayAll0 (ws.map di) = true
  | [] => by simp [PyData.canLayAll0]
  | x :: w => by
    show PyData.canLayAll0 (di x :: w.map di) = true
    rw [PyData.canLayAll0, canAll_di w]
    unfold di
    rw [PyData.canLay0, canAll_ints]
    rfl
theorem depAll_di : ∀ ws : List (List Int), PyData.depthAll (ws.map di) ≤ 1
  | [] => by simp [PyData.depthAll]
  | x :: w => by
    have ih := depAll_di w
    show PyData.depthAll (di x :: w.map di) ≤ 1
    rw [PyData.depthAll]
    have e : PyData.depth (di x) = 1 := by
      unfold di
      rw [PyData.depth, depAll_ints]
    omega
theorem shaped_dd (ws : List (List Int)) : SeqAt.shaped (dd ws) = true := by
  have h := depAll_di ws
  unfold SeqAt.shaped dd
  rw [PyData.canLay0, PyData.depth, canAll_di, Bool.true_and, decide_eq_true_eq]
  omega
/-! ### tests -/
theorem itB {b : Bool} {A B : Prop} (h : b = true) (hA : A) : if b = true then A else B := by rw [if_pos h]; exact hA
theorem itN {b : Bool} {A B : Prop} (h : b = false) (hB : B) : if b = true then A else B := by rw [if_neg (by rw [h]; decide)]; exact hB
theorem eqI (a b : Int) : decide (V.int a = V.int b) = decide (a = b) := by
  rw [decide_eq_decide]
  exact ⟨fun h => V.int.inj h, fun h => by rw [h]⟩
theorem line70 {n : Nat} (h : n ≤ 70000) : n < sizeLine := Nat.lt_of_le_of_lt h (by decide)
theorem line70' {n : Nat} (h : n ≤ 70000) : n ≤ sizeLine := Nat.le_of_lt (line70 h)
def codesOf (x : Str) : List Int := x.cps.toList.map fun (n : Nat) => (n : Int)
theorem codesOf_len (x : Str) : (codesOf x).length = x.cps.size := by
  unfold codesOf
  rw [List.length_map, Array.length_toList]
/-! ### promises -/
def spCodes : Sp := fun vs H Q _ => ∃ x : Str, vs = [.str x] ∧ x.cps.size ≤ 70000 ∧ ∀ (H' : Hp) (p : Addr), Same H H' → H p = none → LI H' p (codesOf x) → Q (.ref p) H'
def spSplit (K : PySem.W.Frag) : Sp := fun vs H Q _ => ∃ (a : Addr) (m : Int) (row : List Int), vs = [.ref a, .int m] ∧ SqL K H a (zs row) ∧ row.length ≤ 69000 ∧ ∀ (H' : Hp) (p : Addr) (as : List Addr), Same H H' → H p = none → H' p = some (.lst (as.map V.ref)) →
  M.All2 (fun b w => b ≠ p ∧ H b = none ∧ LI H' b w) as (M.cutI m row) → Q (.ref p) H'
def spMadeOf (K : PySem.W.Frag) : Sp := fun vs H Q _ => ∃ (a : Addr) (w : List Int) (x : Str), vs = [.ref a, .str x] ∧ SqL K H a (zs w) ∧ x.cps.size ≤ 70000 ∧ ∀ H' : Hp, Same H H' → Q (.bl (M.madeOf (codesOf x) w)) H'
def spWord (K : PySem.W.Frag) (f : List Int → Bool) : Sp := fun vs H Q _ => ∃ (a : Addr) (w : List Int), vs = [.ref a] ∧ SqL K H a (zs w) ∧ ∀ H' : Hp, Same H H' → Q (.bl (f w)) H'
def spDigit (K : PySem.W.Frag) : Sp := fun vs H Q _ => ∃ (a : Addr) (w : List Int) (most : Int), vs = [.ref a, .int most] ∧ SqL K H a (zs w) ∧ Q (.int (M.digit most w)) H
def spWords (f : List (List Int) → Bool) : Sp := fun vs H Q _ => ∃ (a : Addr) (as : List Addr) (ws : List (List Int)), vs = [.ref a] ∧ H a = some (.lst (as.map V.ref)) ∧ WS H as ws ∧ ∀ H' : Hp, Same H H' → Q (.bl (f ws)) H'
/-! ### kinds as objects -/
def kf (r : Int) (n : Addr) (b c : Int) (d : Addr) : List (Str × V) := putF "design" (.ref d) (putF "copies" (.int c) (putF "back" (.int b) (putF "name" (.ref n) (putF "role" (.int r) []))))
theorem len_put {f : Str} {v : V} {fs : List (Str × V)} {n : Nat} (h : fs.length ≤ n) : (putF f v fs).length ≤ n + 1 := Nat.le_trans (length_putF f v fs) (by omega)
section
variable (r : Int) (n : Addr) (b c : Int) (d : Addr)
theorem kf_role : (kf r n b c d).lookup ("role" : Str) = some (.int r) := by
  unfold kf
  rw [lookup_putF, if_neg (by decide +kernel), lookup_putF, if_neg (by decide +kernel), lookup_putF, if_neg (by decide +kernel), lookup_putF, if_neg (by decide +kernel), lookup_putF, if_pos rfl]
theorem kf_name : (kf r n b c d).lookup ("name" : Str) = some (.ref n) := by
  unfold kf
  rw [lookup_putF, if_neg (by decide +kernel), lookup_putF, if_neg (by decide +kernel), lookup_putF, if_neg (by decide +kernel), lookup_putF, if_pos rfl]
theorem kf_back : (kf r n b c d).lookup ("back" : Str) = some (.int b) := by
  unfold kf
  rw [lookup_putF, if_neg (by decide +kernel), lookup_putF, if_neg (by decide +kernel), lookup_putF, if_pos rfl]
theorem kf_copies : (kf r n b c d).lookup ("copies" : Str) = some (.int c) := by
  unfold kf
  rw [lookup_putF, if_neg (by decide +kernel), lookup_putF, if_pos rfl]
theorem kf_design : (kf r n b c d).lookup ("design" : Str) = some (.ref d) := by
  unfold kf
  rw [lookup_putF, if_pos rfl]
end
/-- a kind stands at a; fp holds of each place that it leans on -/
def KindF (C : Addr) (H : Hp) (fp : Addr → Prop) (a : Addr) (k : M.KD) : Prop := ∃ (dx nm ds : Addr) (as : List Addr), H a = some (.ins C dx (kf k.role nm k.back k.copies ds)) ∧ LI H nm k.name ∧ H ds = some (.lst (as.map V.ref)) ∧ WS H as k.design ∧ fp a ∧ fp nm ∧ fp ds ∧ ∀ x ∈ as, fp x
theorem all2_mem {α β : Type} {R S : α → β → Prop} : ∀ {as : List α} {bs : List β}, M.All2 R as bs → (∀ a b, a ∈ as → R a b → S a b) → M.All2 S as bs
  | _, _, .nil, _ => .nil
  | _, _, .cons r t, h => .cons (h _ _ (List.mem_cons_self ..) r) (all2_mem t fun a b m q => h a b (List.mem_cons_of_mem _ m) q)
theorem KindF.keep {C : Addr} {H H' : Hp} {fp : Addr → Prop} {a : Addr} {k : M.KD} (h : KindF C H fp a k) (s : ∀ b o, fp b → H b = some o → H' b = some o) : KindF C H' fp a k := by
  obtain ⟨dx, nm, ds, as, h1, h2, h3, h4, f1, f2, f3, f4⟩ := h
  exact ⟨dx, nm, ds, as, s _ _ f1 h1, s _ _ f2 h2, s _ _ f3 h3, all2_mem h4 fun x y m q => s _ _ (f4 x m) q, f1, f2, f3, f4⟩
def KindAt (C : Addr) (H : Hp) (a : Addr) (k : M.KD) : Prop := ∃ (dx nm ds : Addr) (as : List Addr), H a = some (.ins C dx (kf k.role nm k.back k.copies ds)) ∧ LI H nm k.name ∧ H ds = some (.lst (as.map V.ref)) ∧ WS H as k.design
theorem KindF.at {C : Addr} {H : Hp} {fp : Addr → Prop} {a : Addr} {k : M.KD} (h : KindF C H fp a k) : KindAt C H a k := by
  obtain ⟨dx, nm, ds, as, h1, h2, h3, h4, _⟩ := h
  exact ⟨dx, nm, ds, as, h1, h2, h3, h4⟩
theorem KindAt.same {C : Addr} {H H' : Hp} {a : Addr} {k : M.KD} (h : KindAt C H a k) (s : Same H H') : KindAt C H' a k := by
  obtain ⟨dx, nm, ds, as, h1, h2, h3, h4⟩ := h
  exact ⟨dx, nm, ds, as, s _ _ h1, h2.same s, s _ _ h3, h4.same s⟩
abbrev Kinds (C : Addr) (H : Hp) (as : List Addr) (ks : List M.KD) : Prop := M.All2 (fun a k => KindAt C H a k) as ks
theorem kinds_same {C : Addr} {H H' : Hp} {as : List Addr} {ks : List M.KD} (h : Kinds C H as ks) (s : Same H H') : Kinds C H' as ks := M.All2.imp (fun _ _ q => q.same s) h
def spInit (C : Addr) : Sp := fun vs H Q _ => ∃ (p dx n d : Addr) (r b c : Int), vs = [.ref p, .int r, .ref n, .int b, .int c, .ref d] ∧ H p = some (.ins C dx []) ∧ ∀ H' : Hp, H' p = some (.ins C dx (kf r n b c d)) → (∀ b o, H b = some o → b ≠ p → H' b = some o) → Q .non H'
/-- a kind, or None -/
def OptK (C : Addr) (H' : Hp) (fp : Addr → Prop) (v : V) (m : Option M.KD) : Prop := match m with
  | none => v = .non
  | some k => ∃ p, v = .ref p ∧ KindF C H' fp p k
def spMadeKind (C : Addr) : Sp := fun vs H Q _ => ∃ (fp : Addr → Prop) (nm rs : Addr) (role back : Int) (name : List Int) (as : List Addr) (rest : List (List Int)), vs = [.int role, .ref nm, .int back, .ref rs] ∧ LI H nm name ∧ H rs = some (.lst (as.map V.ref)) ∧ WS H as rest ∧
  (∀ b, H b = none → fp b) ∧ fp nm ∧ (∀ x ∈ as, fp x) ∧ ∀ (H' : Hp) (v : V), Same H H' → OptK C H' fp v (M.madeKind role name back rest) → Q v H'
def spReadKind (C : Addr) : Sp := fun vs H Q _ => ∃ (fp : Addr → Prop) (rs : Addr) (as : List Addr) (words : List (List Int)), vs = [.ref rs] ∧ H rs = some (.lst (as.map V.ref)) ∧ WS H as words ∧ words ≠ [] ∧
  (∀ b, H b = none → fp b) ∧ (∀ x ∈ as, fp x) ∧ ∀ (H' : Hp) (v : V), Same H H' → OptK C H' fp v (M.readKind words) → Q v H'
def spKinds (C : Addr) (f : List M.KD → M.KD → Bool) : Sp := fun vs H Q _ => ∃ (l a : Addr) (as : List Addr) (ks : List M.KD) (k : M.KD), vs = [.ref l, .ref a] ∧ H l = some (.lst (as.map V.ref)) ∧ Kinds C H as ks ∧ KindAt C H a k ∧ Q (.bl (f ks k)) H
/-- kinds, or None -/
def OptKs (C : Addr) (H' : Hp) (v : V) (m : Option (List M.KD)) : Prop := match m with
  | none => v = .non
  | some ks => ∃ (p : Addr) (as : List Addr), v = .ref p ∧ H' p = some (.lst (as.map V.ref)) ∧ Kinds C H' as ks
def spReadKinds (C : Addr) : Sp := fun vs H Q _ => ∃ (l : Addr) (as : List Addr) (lines : List (List Int)), vs = [.ref l] ∧ H l = some (.lst (as.map V.ref)) ∧ WS H as lines ∧ lines.length ≤ 69000 ∧ (∀ w ∈ lines, w.length ≤ 69000) ∧
  ∀ (H' : Hp) (v : V), Same H H' → OptKs C H' v (M.readKinds lines) → Q v H'
def spReadLocker (K : PySem.W.Frag) (C : Addr) : Sp := fun vs H Q _ => ∃ (a : Addr) (t : List Int), vs = [.ref a] ∧ SqL K H a (zs t) ∧ t.length ≤ 65536 ∧
  ∀ (H' : Hp) (v : V), Same H H' → OptKs C H' v (M.readLocker t) → Q v H'
def placeI (o : Option Nat) : Int := match o with
  | none => -1
  | some i => (i : Int)
def unkAt (ks : List M.KD) (h : List Int) : Option Nat := M.unknownAt ks.length h
def spPlace (K : PySem.W.Frag) (C : Addr) (f : List M.KD → List Int → Option Nat) : Sp := fun vs H Q _ => ∃ (l a : Addr) (as : List Addr) (ks : List M.KD) (h : List Int), vs = [.ref l, .ref a] ∧ H l = some (.lst (as.map V.ref)) ∧ Kinds C H as ks ∧ SqL K H a (zs h) ∧ h.length ≤ 20 ∧
  (∀ z ∈ h, 0 ≤ z ∧ z < 256) ∧ ∀ H' : Hp, Same H H' → Q (.int (placeI (f ks h))) H'
def Kok (k : M.KD) : Prop := k.role = 1 → 1 ≤ k.back
def spMeant (K : PySem.W.Frag) (C : Addr) : Sp := fun vs H Q _ => ∃ (l a : Addr) (as : List Addr) (ks : List M.KD) (h : List Int), vs = [.ref l, .ref a] ∧ H l = some (.lst (as.map V.ref)) ∧ Kinds C H as ks ∧ SqL K H a (zs h) ∧ h.length ≤ 20 ∧
  (∀ z ∈ h, 0 ≤ z ∧ z < ks.length) ∧ (∀ k ∈ ks, Kok k) ∧ ∀ (H' : Hp) (p : Addr), Same H H' → H p = none → LI H' p (M.meantFrom ks [] h) → Q (.ref p) H'
def spLack (K : PySem.W.Frag) (C : Addr) : Sp := fun vs H Q _ => ∃ (l a : Addr) (as : List Addr) (ks : List M.KD) (h : List Int), vs = [.ref l, .ref a] ∧ H l = some (.lst (as.map V.ref)) ∧ Kinds C H as ks ∧ SqL K H a (zs h) ∧ h.length ≤ 20 ∧
  (∀ z ∈ h, 0 ≤ z ∧ z < ks.length) ∧ ∀ H' : Hp, Same H H' → Q (.int (placeI (M.lackingAt ks h))) H'
def spMeansIn (K : PySem.W.Frag) (C : Addr) : Sp := fun vs H Q _ => ∃ (l a : Addr) (as : List Addr) (ks : List M.KD) (h : List Int), vs = [.ref l, .ref a] ∧ H l = some (.lst (as.map V.ref)) ∧ Kinds C H as ks ∧ SqL K H a (zs h) ∧ h.length ≤ 20 ∧
  (∀ z ∈ h, 0 ≤ z ∧ z < 256) ∧ (∀ k ∈ ks, Kok k) ∧ ∀ (H' : Hp) (p : Addr), Same H H' → LI H' p (M.meansIn ks h) → Q (.ref p) H'
def spMeans (K : PySem.W.Frag) : Sp := fun vs H Q _ => ∃ (a b : Addr) (t h : List Int), vs = [.ref a, .ref b] ∧ SqL K H a (zs t) ∧ SqL K H b (zs h) ∧ h.length ≤ 20 ∧ (∀ z ∈ h, 0 ≤ z ∧ z < 256) ∧
  ∀ (H' : Hp) (p : Addr), Same H H' → LI H' p (M.means t h) → Q (.ref p) H'
end Fl
set_option Elab.async false
set_option linter.all false
set_option maxRecDepth 100000
namespace Fl
open PySem PySem.Spec PyProof.Rows L2
open PySem.W (Codec)
open Sh (nz LK nsg chAt rowCh setsTo spotA bnd bound cntNext Tal putN readT)
open Flags (Locker Spot)
theorem boot_sum : bootBuiltins "sum" = some (.builtin "sum") := by decide +kernel
theorem boot_max : bootBuiltins "max" = some (.builtin "max") := by decide +kernel
theorem boot_min : bootBuiltins "min" = some (.builtin "min") := by decide +kernel
theorem boot_list : bootBuiltins "list" = some (.type "list") := by decide +kernel
/-! ### inside a comprehension: the frame named -/
theorem pe_fldK {X : Cx} (K : PySem.W.Frag) {e : Expr} {f : Str} {pos : Pos} {ta : TE} (he : PE X e ta) (hb : attributeBase e f X.env (eval e X.env) = eval e X.env) (hk : X.K = K) : PE X (.Attribute e f pos) (tFld K ta f) := by
  subst hk
  exact pe_fld he hb
theorem ix_listK {X : Cx} (K : PySem.W.Frag) (hk : X.K = K) : IxR X (rIxL K) := by
  subst hk
  exact ix_list
/-! ### a walk over the keys of a locked dict -/
theorem lc_keys {d : Addr} {od : Obj} {kvs : List (Key × V)} {g : TG} {tt : TT} {te : TE} {vs : List Nat} {σ : L2.St} {H1 : Hp} {D : Addr} {Qd : Hp → Prop} (Pv : Nat → Hp → Prop) (h0 : Pv 0 (upd H1 D (.lst []))) (hl : ∀ i H, i ≤ kvs.length → Pv i H → H d = some (.frz od (.dK kvs)))
    (hs : ∀ i k v H, kvs[i]? = some (k, v) → Pv i H → g (kV k) (wipe σ vs) H fun σ2 H2 => wipe σ2 vs = wipe σ vs ∧ tt σ2 H2 fun b H3 =>
      if b = true then te σ2 H3 fun y H4 => ∃ acc, H4 D = some (.lst acc) ∧ acc.length < sizeLine ∧ Pv (i + 1) (upd H4 D (.lst (acc ++ [y]))) else Pv (i + 1) H3) (hd : ∀ H, Pv kvs.length H → Qd H) :
    ∃ W : Nat → Nat → Hp → Prop, (∃ m, W 0 m (upd H1 D (.lst []))) ∧ ∀ i m H, W i m H →
      ((Itk d od kvs).stop i H ∧ Qd H) ∨ ((Itk d od kvs).go i H ∧ ∃ Nx : Hp → Prop, (∀ H', Nx H' → ∃ m', m' < m ∧ W (i + 1) m' H') ∧ ∀ x H', (Itk d od kvs).yld i H x H' → g x (wipe σ vs) H' fun σ2 H2 => wipe σ2 vs = wipe σ vs ∧ tt σ2 H2 fun b H3 =>
        if b = true then te σ2 H3 fun y H4 => ∃ acc, H4 D = some (.lst acc) ∧ acc.length < sizeLine ∧ Nx (upd H4 D (.lst (acc ++ [y]))) else Nx H3) := by
  refine ⟨fun i m H => m = kvs.length - i ∧ i ≤ kvs.length ∧ Pv i H, ⟨kvs.length, by simp, Nat.zero_le _, h0⟩, ?_⟩
  rintro i m H ⟨rfl, hi, p⟩
  have q := hl i H hi p
  by_cases hlt : i < kvs.length
  · refine .inr ⟨⟨q, hlt⟩, Pv (i + 1), fun H' p' => ⟨kvs.length - (i + 1), by omega, rfl, hlt, p'⟩, fun x H' y => ?_⟩
    obtain ⟨e, k, v, hk, rfl⟩ := y
    subst e
    exact hs i k v _ hk p
  · have e : i = kvs.length := by omega
    subst e
    exact .inl ⟨⟨q, Nat.le_refl _⟩, hd H p⟩
/-! ### lists of numbers from 0 on -/
theorem zn_len (l : List Nat) : (zs (nz l)).length = l.length := by rw [ints_len, Sh.nz_len]
theorem zn_snoc (l : List Nat) (x : Nat) : zs (nz l) ++ [V.int (x : Int)] = zs (nz (l ++ [x])) := by
  rw [zs, zs, nz, nz, List.map_append, List.map_append]
  rfl
theorem zn_app (a b : List Nat) : zs (nz a) ++ zs (nz b) = zs (nz (a ++ b)) := by
  rw [zs, zs, zs, nz, nz, nz, List.map_append, List.map_append]
theorem zn_at {l : List Nat} {i x : Nat} (h : l[i]? = some x) : (zs (nz l))[i]? = some (V.int (x : Int)) := by
  rw [zs, nz, List.getElem?_map, List.getElem?_map, h]
  rfl
theorem zn_inv {l : List Nat} {i : Nat} {y : V} (h : (zs (nz l))[i]? = some y) : ∃ x : Nat, l[i]? = some x ∧ y = V.int (x : Int) := by
  obtain ⟨z, hz, rfl⟩ := ints_at h
  rw [nz, List.getElem?_map] at hz
  cases e : l[i]? with
  | none => rw [e] at hz; cases hz
  | some x => rw [e] at hz; exact ⟨x, rfl, by rw [← Option.some.inj hz]⟩
theorem zn_getD {l : List Nat} {i : Nat} (h : i < l.length) : (zs (nz l))[i]? = some (V.int ((l.getD i 0 : Nat) : Int)) := by
  refine zn_at ?_
  rw [List.getD_eq_getElem?_getD, List.getElem?_eq_getElem h]
  rfl
theorem nz_sum : ∀ l : List Nat, (nz l).sum = ((l.sum : Nat) : Int)
  | [] => rfl
  | x :: l => by
    show ((x : Int) :: nz l).sum = _
    rw [List.sum_cons, nz_sum l, List.sum_cons]
    omega
theorem nz_contains (x : Nat) : ∀ l : List Nat, (nz l).contains (x : Int) = l.contains x
  | [] => rfl
  | y :: l => by
    show ((y : Int) :: nz l).contains (x : Int) = _
    rw [List.contains_cons, List.contains_cons, nz_contains x l]
    congr 1
    rw [Bool.eq_iff_iff, beq_iff_eq, beq_iff_eq]
    omega
theorem zn_drop (l : List Nat) (k : Nat) : (zs (nz l)).drop k = zs (nz (l.drop k)) := by
  rw [zs, zs, nz, nz, List.map_drop, List.map_drop]
theorem zn_take (l : List Nat) (k : Nat) : (zs (nz l)).take k = zs (nz (l.take k)) := by
  rw [zs, zs, nz, nz, List.map_take, List.map_take]
theorem zn_set (l : List Nat) (j x : Nat) : (zs (nz l)).set j (V.int (x : Int)) = zs (nz (l.set j x)) := by
  rw [zs, zs, nz, nz, List.map_set, List.map_set]
theorem ixN_nat {n j : Nat} (h : j < n) : ixN n (j : Int) = some j := by
  unfold ixN
  rw [if_pos (by omega), if_pos (by omega), Int.toNat_natCast]
/-! ### lists of lists -/
def LL (H : Hp) (a : Addr) (ws : List (List Nat)) : Prop := ∃ as : List Addr, H a = some (.lst (as.map V.ref)) ∧ M.All2 (fun b w => LI H b (nz w)) as ws
theorem LL.same {H H' : Hp} {a : Addr} {ws : List (List Nat)} (h : LL H a ws) (s : Same H H') : LL H' a ws := by
  obtain ⟨as, h1, h2⟩ := h
  exact ⟨as, s _ _ h1, M.All2.imp (fun _ _ q => s _ _ q) h2⟩
theorem all2_drop {α β : Type} {R : α → β → Prop} : ∀ {as : List α} {bs : List β} (k : Nat), M.All2 R as bs → M.All2 R (as.drop k) (bs.drop k)
  | _, _, 0, h => h
  | _, _, _ + 1, .nil => .nil
  | _, _, k + 1, .cons _ t => all2_drop k t
theorem all2_app {α β : Type} {R : α → β → Prop} : ∀ {as as' : List α} {bs bs' : List β}, M.All2 R as bs → M.All2 R as' bs' → M.All2 R (as ++ as') (bs ++ bs')
  | _, _, _, _, .nil, q => q
  | _, _, _, _, .cons r t, q => .cons r (all2_app t q)
/-! ### kinds, judged -/
structure KL (C : Addr) (H : Hp) (l : Addr) (as : List Addr) (ks : List M.KD) (L : Locker) : Prop where
  at_ : H l = some (.lst (as.map V.ref))
  kinds : Kinds C H as ks
  lk : LK L ks
theorem KL.same {C : Addr} {H H' : Hp} {l : Addr} {as : List Addr} {ks : List M.KD} {L : Locker} (h : KL C H l as ks L) (s : Same H H') : KL C H' l as ks L := ⟨s _ _ h.at_, kinds_same h.kinds s, h.lk⟩
theorem KL.sq {K : PySem.W.Frag} {C : Addr} {H : Hp} {l : Addr} {as : List Addr} {ks : List M.KD} {L : Locker} (h : KL C H l as ks L) : SqL K H l (as.map V.ref) := SqL.of h.at_
theorem KL.len {C : Addr} {H : Hp} {l : Addr} {as : List Addr} {ks : List M.KD} {L : Locker} (h : KL C H l as ks L) : as.length = ks.length := h.kinds.len
/-! ### a tally as a dict -/
def encK (kvs : List (Nat × Nat)) : List (Key × V) := kvs.map fun p => ((Sum.inl (p.1 : Int) : Key), V.int (p.2 : Int))
theorem inl_iff (a b : Nat) : ((Sum.inl (a : Int) : Key) = Sum.inl (b : Int)) ↔ a = b := by
  constructor
  · intro h
    have := Sum.inl.inj h
    omega
  · intro h
    rw [h]
theorem enc_put (kvs : List (Nat × Nat)) (s n : Nat) : putK (encK kvs) (Sum.inl (s : Int)) (V.int (n : Int)) = encK (putN kvs s n) := by
  unfold putK putN encK
  have e : ((kvs.map fun p => ((Sum.inl (p.1 : Int) : Key), V.int (p.2 : Int))).any fun kv => decide (kv.1 = Sum.inl (s : Int))) = kvs.any fun p => decide (p.1 = s) := by
    rw [List.any_map]
    congr 1
    funext p
    show decide ((Sum.inl (p.1 : Int) : Key) = Sum.inl (s : Int)) = decide (p.1 = s)
    rw [decide_eq_decide]
    exact inl_iff _ _
  rw [e]
  by_cases a : (kvs.any fun p => decide (p.1 = s)) = true
  · rw [if_pos a, if_pos a, List.map_map, List.map_map]
    refine List.map_congr_left fun p _ => ?_
    show (if (Sum.inl (p.1 : Int) : Key) = Sum.inl (s : Int) then ((Sum.inl (p.1 : Int) : Key), V.int (n : Int)) else ((Sum.inl (p.1 : Int) : Key), V.int (p.2 : Int))) = ((Sum.inl ((if p.1 = s then (p.1, n) else p).1 : Int) : Key), V.int ((if p.1 = s then (p.1, n) else p).2 : Int))
    by_cases c : p.1 = s
    · rw [if_pos ((inl_iff _ _).mpr c), if_pos c]
    · rw [if_neg (fun q => c ((inl_iff _ _).mp q)), if_neg c]
  · rw [if_neg a, if_neg a, List.map_append]
    rfl
theorem enc_val {kvs : List (Nat × Nat)} {f : Nat → Nat} (t : Tal kvs f) (s : Nat) : valV (encK kvs) (Sum.inl (s : Int)) = if f s = 0 then none else some (V.int (f s : Int)) := by
  unfold valV
  cases e : (encK kvs).find? fun kv => decide (kv.1 = Sum.inl (s : Int)) with
  | none =>
    rw [List.find?_eq_none] at e
    by_cases z : f s = 0
    · rw [if_pos z]; rfl
    · exfalso
      obtain ⟨p, hp, q⟩ := List.mem_map.mp (t.all s (by omega))
      refine e _ (List.mem_map.mpr ⟨p, hp, rfl⟩) (decide_eq_true ?_)
      exact (inl_iff _ _).mpr q
  | some kv =>
    have h1 := List.find?_some e
    have h2 := List.mem_of_find?_eq_some e
    obtain ⟨p, hp, rfl⟩ := List.mem_map.mp h2
    have h1 : p.1 = s := (inl_iff _ _).mp (of_decide_eq_true h1)
    have v := t.val p hp
    rw [h1] at v
    rw [if_neg (by omega)]
    show some (V.int (p.2 : Int)) = _
    rw [v.1]
theorem enc_getD {kvs : List (Nat × Nat)} {f : Nat → Nat} (t : Tal kvs f) (s : Nat) : (valV (encK kvs) (Sum.inl (s : Int))).getD (V.int 0) = V.int (f s : Int) := by
  rw [enc_val t]
  by_cases z : f s = 0
  · rw [if_pos z, z]; rfl
  · rw [if_neg z]; rfl
theorem enc_len (kvs : List (Nat × Nat)) : (encK kvs).length = kvs.length := List.length_map _
/-! ### promises -/
def spLong (K : PySem.W.Frag) : Sp := fun vs H Q _ => ∃ (a : Addr) (t : List Int), vs = [.ref a] ∧ SqL K H a (zs t) ∧ Q (.bl (decide (65536 < t.length))) H
def spReadT (K : PySem.W.Frag) (C : Addr) : Sp := fun vs H Q _ => ∃ (a : Addr) (t : List Int), vs = [.ref a] ∧ SqL K H a (zs t) ∧ ∀ (H' : Hp) (v : V), Same H H' → OptKs C H' v (readT t) → Q v H'
def spRefuse (K : PySem.W.Frag) : Sp := fun vs H Q _ => ∃ (a : Addr) (t : List Int), vs = [.ref a] ∧ SqL K H a (zs t) ∧ ∀ (H' : Hp) (p : Addr), Same H H' → LI H' p (if 65536 < t.length then [-2] else [-6]) → Q (.ref p) H'
def spCount (C : Addr) : Sp := fun vs H Q _ => ∃ (l : Addr) (as : List Addr) (ks : List M.KD) (L : Locker), vs = [.ref l] ∧ KL C H l as ks L ∧ ∀ H' : Hp, Same H H' → Q (.int (nsg L : Nat)) H'
def spAreSigns (K : PySem.W.Frag) (C : Addr) : Sp := fun vs H Q _ => ∃ (l a : Addr) (as : List Addr) (ks : List M.KD) (L : Locker) (row : List Nat), vs = [.ref l, .ref a] ∧ KL C H l as ks L ∧ SqL K H a (zs (nz row)) ∧ ∀ H' : Hp, Same H H' → Q (.bl (row.all fun s => decide (s < nsg L))) H'
def spChAt (K : PySem.W.Frag) (C : Addr) : Sp := fun vs H Q _ => ∃ (l a : Addr) (as : List Addr) (ks : List M.KD) (L : Locker) (row : List Nat) (place : Nat), vs = [.ref l, .ref a, .int (place : Int)] ∧ KL C H l as ks L ∧ SqL K H a (zs (nz row)) ∧ place < row.length ∧
  ∀ (H' : Hp) (p : Addr), Same H H' → H p = none → LI H' p (nz (chAt L row place)) → Q (.ref p) H'
def spRowCh (K : PySem.W.Frag) (C : Addr) : Sp := fun vs H Q _ => ∃ (l a : Addr) (as : List Addr) (ks : List M.KD) (L : Locker) (row : List Nat), vs = [.ref l, .ref a] ∧ KL C H l as ks L ∧ SqL K H a (zs (nz row)) ∧ row.length ≤ 1000 ∧
  ∀ (H' : Hp) (p : Addr) (bs : List Addr), Same H H' → H p = none → H' p = some (.lst (bs.map V.ref)) → M.All2 (fun b w => H b = none ∧ LI H' b (nz w)) bs (rowCh L row) → Q (.ref p) H'
def spSets (C : Addr) : Sp := fun vs H Q _ => ∃ (l : Addr) (as : List Addr) (ks : List M.KD) (L : Locker), vs = [.ref l] ∧ KL C H l as ks L ∧ ∀ (H' : Hp) (p : Addr), Same H H' → LL H' p (setsTo L L.kinds.length) → Q (.ref p) H'
def spCopies (C : Addr) : Sp := fun vs H Q _ => ∃ (l : Addr) (as : List Addr) (ks : List M.KD) (L : Locker), vs = [.ref l] ∧ KL C H l as ks L ∧ ∀ (H' : Hp) (p : Addr), Same H H' → LI H' p (nz L.allCopies) → Q (.ref p) H'
def spWithin (K : PySem.W.Frag) : Sp := fun vs H Q _ => ∃ (a b : Addr) (fl ch : List Nat), vs = [.ref a, .ref b] ∧ SqL K H a (zs (nz fl)) ∧ SqL K H b (zs (nz ch)) ∧ Q (.bl (fl.all fun f => ch.contains f)) H
def spBound (K : PySem.W.Frag) : Sp := fun vs H Q _ => ∃ (a b c : Addr) (wanted : List (List Nat)) (left ch : List Nat), vs = [.ref a, .ref b, .ref c] ∧ LL H a wanted ∧ SqL K H b (zs (nz left)) ∧ SqL K H c (zs (nz ch)) ∧ wanted.length ≤ 1000 ∧
  (∀ A ∈ wanted, A ≠ [] ∧ A.headD 0 < left.length) ∧ ∀ H' : Hp, Same H H' → Q (.int (bound wanted left ch : Nat)) H'
def spFill (K : PySem.W.Frag) : Sp := fun vs H Q _ => ∃ (a b c : Addr) (L : Locker) (ks : List M.KD) (l : List Spot) (left : List Nat), vs = [.ref a, .ref b, .ref c] ∧ LK L ks ∧ LL H a (l.map spotA) ∧ SqL K H b (zs (nz left)) ∧ LL H c (setsTo L L.kinds.length) ∧ left.length = L.kinds.length ∧
  Sh.SpotsOk L.sameKinds l ∧ (∀ p ∈ l, p.sign < L.kinds.length) ∧ l.length ≤ 1000 ∧ ∀ H' : Hp, Same H H' → Q (.bl (L.enough left l)) H'
def spCanShow (K : PySem.W.Frag) (C : Addr) : Sp := fun vs H Q _ => ∃ (l a : Addr) (as : List Addr) (ks : List M.KD) (L : Locker) (row : List Nat), vs = [.ref l, .ref a] ∧ KL C H l as ks L ∧ SqL K H a (zs (nz row)) ∧ row.length ≤ 1000 ∧ (∀ s ∈ row, L.isSignAt s = true) ∧
  ∀ H' : Hp, Same H H' → Q (.bl (L.canShow row)) H'
def spRows (C : Addr) (d : Nat) : Sp := fun vs H Q _ => ∃ (l a : Addr) (as : List Addr) (ks : List M.KD) (L : Locker) (row : List Nat), vs = [.ref l, .ref a, .int ((row.length + d : Nat) : Int)] ∧ KL C H l as ks L ∧ LI H a (nz row) ∧ row.length + d ≤ 4 ∧ (∀ s ∈ row, L.isSignAt s = true) ∧
  ∀ H' : Hp, Same H H' → Q (.int (Sh.plain L d row : Nat)) H'
def spNext (C : Addr) (d : Nat) : Sp := fun vs H Q _ => ∃ (l a : Addr) (as : List Addr) (ks : List M.KD) (L : Locker) (row : List Nat) (e : Nat), d = e + 1 ∧ vs = [.ref l, .ref a, .int ((row.length + d : Nat) : Int)] ∧ KL C H l as ks L ∧ LI H a (nz row) ∧ row.length + d ≤ 4 ∧ (∀ s ∈ row, L.isSignAt s = true) ∧
  ∀ (H' : Hp) (p : Addr), Same H H' → H p = none → LI H' p (nz (cntNext L e row)) → Q (.ref p) H'
def spCounted : Sp := fun vs H Q _ => ∃ m : Nat, vs = [.int (m : Int)] ∧ Q (.bl (FlagsB.isCounted m)) H
def spManyIn (C : Addr) : Sp := fun vs H Q _ => ∃ (l : Addr) (as : List Addr) (ks : List M.KD) (L : Locker) (m : Nat), vs = [.ref l, .int (m : Int)] ∧ KL C H l as ks L ∧ ∀ (H' : Hp) (p : Addr), Same H H' → LI H' p (M.enc (Sh.fMany m L)) → Q (.ref p) H'
def spMany (K : PySem.W.Frag) : Sp := fun vs H Q _ => ∃ (a : Addr) (t : List Int) (m : Nat), vs = [.int (m : Int), .ref a] ∧ SqL K H a (zs t) ∧ (∀ x ∈ t, 0 ≤ x ∧ x ≤ 255) ∧ ∀ (H' : Hp) (p : Addr), Same H H' → LI H' p (PyWqbact.many m t) → Q (.ref p) H'
def spNumRow (C : Addr) : Sp := fun vs H Q _ => ∃ (l : Addr) (as : List Addr) (ks : List M.KD) (L : Locker) (m i : Nat), vs = [.ref l, .int (m : Int), .int (i : Int)] ∧ KL C H l as ks L ∧ m ≤ 4 ∧ i < Sh.plain L m [] ∧
  ∀ (H' : Hp) (p : Addr) (r : List Nat), Same H H' → H p = none → L.nthFrom m [] i = some r → r.length = m → LI H' p (nz r) → Q (.ref p) H'
def spNthIn (C : Addr) : Sp := fun vs H Q _ => ∃ (l : Addr) (as : List Addr) (ks : List M.KD) (L : Locker) (m i : Nat), vs = [.ref l, .int (m : Int), .int (i : Int)] ∧ KL C H l as ks L ∧ ∀ (H' : Hp) (p : Addr), Same H H' → LI H' p (M.enc (Sh.fNth m i L)) → Q (.ref p) H'
def spNth (K : PySem.W.Frag) : Sp := fun vs H Q _ => ∃ (a : Addr) (t : List Int) (m i : Nat), vs = [.int (m : Int), .int (i : Int), .ref a] ∧ SqL K H a (zs t) ∧ (∀ x ∈ t, 0 ≤ x ∧ x ≤ 255) ∧ ∀ (H' : Hp) (p : Addr), Same H H' → LI H' p (PyWqbact.nth m i t) → Q (.ref p) H'
def spBefore (K : PySem.W.Frag) (C : Addr) : Sp := fun vs H Q _ => ∃ (l a : Addr) (as : List Addr) (ks : List M.KD) (L : Locker) (row : List Nat), vs = [.ref l, .ref a] ∧ KL C H l as ks L ∧ SqL K H a (zs (nz row)) ∧ row.length ≤ 4 ∧ (∀ s ∈ row, L.isSignAt s = true) ∧
  ∀ H' : Hp, Same H H' → Q (.int (L.numberFrom [] row : Nat)) H'
def spNumberIn (K : PySem.W.Frag) (C : Addr) : Sp := fun vs H Q _ => ∃ (l a : Addr) (as : List Addr) (ks : List M.KD) (L : Locker) (row : List Nat), vs = [.ref l, .ref a] ∧ KL C H l as ks L ∧ SqL K H a (zs (nz row)) ∧ row.length ≤ 20 ∧ ∀ (H' : Hp) (p : Addr), Same H H' → LI H' p (M.enc (Sh.fNumber row L)) → Q (.ref p) H'
def spNumber (K : PySem.W.Frag) : Sp := fun vs H Q _ => ∃ (a b : Addr) (t : List Int) (row : List Nat), vs = [.ref a, .ref b] ∧ SqL K H a (zs t) ∧ (∀ x ∈ t, 0 ≤ x ∧ x ≤ 255) ∧ SqL K H b (zs (nz row)) ∧ row.length ≤ 20 ∧ ∀ (H' : Hp) (p : Addr), Same H H' → LI H' p (PyWqbact.number t (nz row)) → Q (.ref p) H'
def spLens (K : PySem.W.Frag) : Sp := fun vs H Q _ => ∃ (a b : Addr) (lens signs : List Nat), vs = [.ref a, .ref b] ∧ SqL K H a (zs (nz lens)) ∧ SqL K H b (zs (nz signs)) ∧ Q (.bl (FlagsB.lensOk lens signs)) H
def spAllCh (K : PySem.W.Frag) (C : Addr) : Sp := fun vs H Q _ => ∃ (l a b : Addr) (as : List Addr) (ks : List M.KD) (L : Locker) (lens signs : List Nat), vs = [.ref l, .ref a, .ref b] ∧ KL C H l as ks L ∧ SqL K H a (zs (nz lens)) ∧ SqL K H b (zs (nz signs)) ∧ lens.sum = signs.length ∧ signs.length ≤ 60 ∧
  ∀ (H' : Hp) (p : Addr), Same H H' → LL H' p ((FlagsB.cutRows lens signs).flatMap (rowCh L)) → Q (.ref p) H'
def spWithout (K : PySem.W.Frag) : Sp := fun vs H Q _ => ∃ (a : Addr) (left : List Nat) (f : Nat), vs = [.ref a, .int (f : Int)] ∧ SqL K H a (zs (nz left)) ∧ f < left.length ∧ 0 < left.getD f 0 ∧ ∀ (H' : Hp) (p : Addr), Same H H' → H p = none → LI H' p (nz (Flags.less1 left f)) → Q (.ref p) H'
def flagI (o : Option Nat) : Int := match o with
  | none => -1
  | some i => (i : Int)
def spFirst (K : PySem.W.Frag) : Sp := fun vs H Q _ => ∃ (a b c e : Addr) (L : Locker) (ks : List M.KD) (p : Spot) (l : List Spot) (left : List Nat), vs = [.ref a, .ref b, .ref c, .ref e] ∧ LK L ks ∧ LI H a (nz (spotA p)) ∧ LL H b (l.map spotA) ∧ LI H c (nz left) ∧ LL H e (setsTo L L.kinds.length) ∧ left.length = L.kinds.length ∧
  Sh.SpotsOk L.sameKinds (p :: l) ∧ (∀ q ∈ p :: l, q.sign < L.kinds.length) ∧ l.length ≤ 1000 ∧ ∀ H' : Hp, Same H H' → Q (.int (flagI (Sh.firstF L left p l))) H'
/-- flags, or None -/
def OptFl (H' : Hp) (v : V) (m : Option (List Nat)) : Prop := match m with
  | none => v = .non
  | some fs => ∃ p : Addr, v = .ref p ∧ LI H' p (nz fs)
def spTold (C : Addr) : Sp := fun vs H Q _ => ∃ (l a : Addr) (as : List Addr) (ks : List M.KD) (L : Locker) (sp : List Spot), vs = [.ref l, .ref a] ∧ KL C H l as ks L ∧ LL H a (sp.map spotA) ∧ Sh.SpotsOk L.sameKinds sp ∧ (∀ p ∈ sp, p.sign < L.kinds.length) ∧ sp.length ≤ 1000 ∧
  ∀ (H' : Hp) (v : V), Same H H' → OptFl H' v (if L.enough L.allCopies sp = true then some (L.fill sp L.allCopies) else none) → Q v H'
def spShowsIn (K : PySem.W.Frag) (C : Addr) : Sp := fun vs H Q _ => ∃ (l a b : Addr) (as : List Addr) (ks : List M.KD) (L : Locker) (lens signs : List Nat), vs = [.ref l, .ref a, .ref b] ∧ KL C H l as ks L ∧ SqL K H a (zs (nz lens)) ∧ SqL K H b (zs (nz signs)) ∧ lens.length ≤ 10 ∧ signs.length ≤ 60 ∧
  ∀ (H' : Hp) (p : Addr), Same H H' → LI H' p (M.enc (Sh.fShows lens signs L)) → Q (.ref p) H'
def spShows (K : PySem.W.Frag) : Sp := fun vs H Q _ => ∃ (a b c : Addr) (t : List Int) (lens signs : List Nat), vs = [.ref a, .ref b, .ref c] ∧ SqL K H a (zs t) ∧ (∀ x ∈ t, 0 ≤ x ∧ x ≤ 255) ∧ SqL K H b (zs (nz lens)) ∧ SqL K H c (zs (nz signs)) ∧ lens.length ≤ 10 ∧ signs.length ≤ 60 ∧
  ∀ (H' : Hp) (p : Addr), Same H H' → LI H' p (PyWqbact.shows t (nz lens) (nz signs)) → Q (.ref p) H'
end Fl
set_option Elab.async false
set_option linter.all false
set_option maxRecDepth 100000
namespace Fl
open PySem PySem.Spec PyProof.Rows L2
open PySem.W (Codec)
def top (i : Nat) : Stmt := PySem.Challenge.pw_flaghoistsdesk_s01_means.main.body.getD i (.Pass ⟨0, 0, 0, 0⟩)
abbrev s_Kind_init : Stmt := inClass (top 15) 0
abbrev s_codes : Stmt := top 16
abbrev s_split_at : Stmt := top 17
abbrev s_made_of : Stmt := top 18
abbrev s_is_name : Stmt := top 19
abbrev s_is_look : Stmt := top 20
abbrev s_is_shape : Stmt := top 21
abbrev s_digit_of : Stmt := top 22
abbrev s_is_locker_line : Stmt := top 23
abbrev s_made_kind : Stmt := top 24
abbrev s_read_kind : Stmt := top 25
abbrev s_in_order : Stmt := top 26
abbrev s_is_new : Stmt := top 27
abbrev s_fits : Stmt := top 28
abbrev s_read_kinds : Stmt := top 29
abbrev s_is_too_long : Stmt := top 30
abbrev s_read_locker : Stmt := top 31
abbrev s_text_refusal : Stmt := top 40
abbrev s_unknown_place : Stmt := top 41
abbrev s_meant_row : Stmt := top 42
abbrev s_lacking_place : Stmt := top 43
abbrev s_means_in : Stmt := top 44
abbrev s_means : Stmt := top 45
theorem sc_Kind_init : FnScope ["self", "role", "name", "back", "copies", "design"] ["self", "role", "name", "back", "copies", "design"] (defScope s_Kind_init) := ⟨rfl, rfl, rfl, by decide +kernel, rfl, by decide +kernel, by decide +kernel⟩
theorem sc_codes : FnScope ["letters", "letter"] ["letters"] (defScope s_codes) := ⟨rfl, rfl, rfl, by decide +kernel, rfl, by decide +kernel, by decide +kernel⟩
theorem sc_split_at : FnScope ["row", "mark", "parts", "part", "byte"] ["row", "mark"] (defScope s_split_at) := ⟨rfl, rfl, rfl, by decide +kernel, rfl, by decide +kernel, by decide +kernel⟩
theorem sc_made_of : FnScope ["word", "letters", "allowed", "byte"] ["word", "letters"] (defScope s_made_of) := ⟨rfl, rfl, rfl, by decide +kernel, rfl, by decide +kernel, by decide +kernel⟩
theorem sc_is_name : FnScope ["word"] ["word"] (defScope s_is_name) := ⟨rfl, rfl, rfl, by decide +kernel, rfl, by decide +kernel, by decide +kernel⟩
theorem sc_is_look : FnScope ["word"] ["word"] (defScope s_is_look) := ⟨rfl, rfl, rfl, by decide +kernel, rfl, by decide +kernel, by decide +kernel⟩
theorem sc_is_shape : FnScope ["word", "shape"] ["word"] (defScope s_is_shape) := ⟨rfl, rfl, rfl, by decide +kernel, rfl, by decide +kernel, by decide +kernel⟩
theorem sc_digit_of : FnScope ["word", "most", "value"] ["word", "most"] (defScope s_digit_of) := ⟨rfl, rfl, rfl, by decide +kernel, rfl, by decide +kernel, by decide +kernel⟩
theorem sc_is_locker_line : FnScope ["words"] ["words"] (defScope s_is_locker_line) := ⟨rfl, rfl, rfl, by decide +kernel, rfl, by decide +kernel, by decide +kernel⟩
theorem sc_made_kind : FnScope ["role", "name", "back", "rest", "copies"] ["role", "name", "back", "rest"] (defScope s_made_kind) := ⟨rfl, rfl, rfl, by decide +kernel, rfl, by decide +kernel, by decide +kernel⟩
theorem sc_read_kind : FnScope ["words", "back"] ["words"] (defScope s_read_kind) := ⟨rfl, rfl, rfl, by decide +kernel, rfl, by decide +kernel, by decide +kernel⟩
theorem sc_in_order : FnScope ["kinds", "kind", "last"] ["kinds", "kind"] (defScope s_in_order) := ⟨rfl, rfl, rfl, by decide +kernel, rfl, by decide +kernel, by decide +kernel⟩
theorem sc_is_new : FnScope ["kinds", "kind", "before"] ["kinds", "kind"] (defScope s_is_new) := ⟨rfl, rfl, rfl, by decide +kernel, rfl, by decide +kernel, by decide +kernel⟩
theorem sc_fits : FnScope ["kinds", "kind"] ["kinds", "kind"] (defScope s_fits) := ⟨rfl, rfl, rfl, by decide +kernel, rfl, by decide +kernel, by decide +kernel⟩
theorem sc_read_kinds : FnScope ["lines", "kinds", "line", "kind"] ["lines"] (defScope s_read_kinds) := ⟨rfl, rfl, rfl, by decide +kernel, rfl, by decide +kernel, by decide +kernel⟩
theorem sc_is_too_long : FnScope ["t"] ["t"] (defScope s_is_too_long) := ⟨rfl, rfl, rfl, by decide +kernel, rfl, by decide +kernel, by decide +kernel⟩
theorem sc_read_locker : FnScope ["t", "lines"] ["t"] (defScope s_read_locker) := ⟨rfl, rfl, rfl, by decide +kernel, rfl, by decide +kernel, by decide +kernel⟩
theorem sc_text_refusal : FnScope ["t"] ["t"] (defScope s_text_refusal) := ⟨rfl, rfl, rfl, by decide +kernel, rfl, by decide +kernel, by decide +kernel⟩
theorem sc_unknown_place : FnScope ["kinds", "h", "place", "flag"] ["kinds", "h"] (defScope s_unknown_place) := ⟨rfl, rfl, rfl, by decide +kernel, rfl, by decide +kernel, by decide +kernel⟩
theorem sc_meant_row : FnScope ["kinds", "h", "row", "flag", "kind"] ["kinds", "h"] (defScope s_meant_row) := ⟨rfl, rfl, rfl, by decide +kernel, rfl, by decide +kernel, by decide +kernel⟩
theorem sc_lacking_place : FnScope ["kinds", "h", "place", "flag"] ["kinds", "h"] (defScope s_lacking_place) := ⟨rfl, rfl, rfl, by decide +kernel, rfl, by decide +kernel, by decide +kernel⟩
theorem sc_means_in : FnScope ["kinds", "h", "unknown", "row", "lacking"] ["kinds", "h"] (defScope s_means_in) := ⟨rfl, rfl, rfl, by decide +kernel, rfl, by decide +kernel, by decide +kernel⟩
theorem sc_means : FnScope ["t", "h", "kinds"] ["t", "h"] (defScope s_means) := ⟨rfl, rfl, rfl, by decide +kernel, rfl, by decide +kernel, by decide +kernel⟩
structure Txt (K : PySem.W.Frag) (mg : Str → Option Value) (C aS : Addr) : Prop where
  len : mg "len" = none
  ord : mg "ord" = none
  enumerate : mg "enumerate" = none
  range : mg "range" = none
  sum : mg "sum" = none
  max : mg "max" = none
  min : mg "min" = none
  list : mg "list" = none
  c_MOST_BYTES : ∃ t, mg "MOST_BYTES" = some (.int (65536) t)
  c_MOST_SIGNS : ∃ t, mg "MOST_SIGNS" = some (.int (48) t)
  c_MOST_COPIES : ∃ t, mg "MOST_COPIES" = some (.int (8) t)
  c_MOST_BACK : ∃ t, mg "MOST_BACK" = some (.int (4) t)
  c_MOST_NAME : ∃ t, mg "MOST_NAME" = some (.int (8) t)
  c_LOOK_CELLS : ∃ t, mg "LOOK_CELLS" = some (.int (16) t)
  c_LINE_END : ∃ t, mg "LINE_END" = some (.int (10) t)
  c_BLANK : ∃ t, mg "BLANK" = some (.int (32) t)
  c_SIGN : ∃ t, mg "SIGN" = some (.int (0) t)
  c_SAME : ∃ t, mg "SAME" = some (.int (1) t)
  c_ANSWER : ∃ t, mg "ANSWER" = some (.int (2) t)
  c_TEXT_TOO_LONG : ∃ t, mg "TEXT_TOO_LONG" = some (.int (-2) t)
  c_NO_LOCKER : ∃ t, mg "NO_LOCKER" = some (.int (-6) t)
  c_BAD_LENGTH : ∃ t, mg "BAD_LENGTH" = some (.int (-1) t)
  c_NO_SUCH_NUMBER : ∃ t, mg "NO_SUCH_NUMBER" = some (.int (-4) t)
  c_MEANS_NOTHING : ∃ t, mg "MEANS_NOTHING" = some (.int (-9) t)
  c_TOO_FEW_COPIES : ∃ t, mg "TOO_FEW_COPIES" = some (.int (-3) t)
  c_MOST_FLAGS : ∃ t, mg "MOST_FLAGS" = some (.int (8) t)
  c_NAME_LETTERS : ∃ t, mg "NAME_LETTERS" = some (.str "ABCDEFGHIJKLMNOPQRSTUVWXYZ0123456789" t)
  c_LOOK_LETTERS : ∃ t, mg "LOOK_LETTERS" = some (.str "0123456789abcdef" t)
  c_SHAPES : mg "SHAPES" = some (.ref aS)
  shapes : ∀ H : Hp, SqT K H aS [.str "square", .str "tails", .str "long"]
  cl : Cls K C
  n_role : NoAttr K C "role"
  n_name : NoAttr K C "name"
  n_back : NoAttr K C "back"
  n_copies : NoAttr K C "copies"
  n_design : NoAttr K C "design"
section
variable {P : Program} {w : World} {K : PySem.W.Frag} {mg : Str → Option Value} {base : Heap} {C aS : Addr}
/-! ### Kind.__init__ -/
theorem d_init {f : Addr} {fd : FuncData} (F : Fun K "__init__" "Kind.__init__" s_Kind_init f fd) (T : Txt K mg C aS) : FnOk P w K mg base CX0 1 f fd ["self", "role", "name", "back", "copies", "design"] (spInit C) := by
  have nd := sc_Kind_init.nd
  refine F.ok sc_Kind_init (fun vs H Q E h => ?_) (fun cdv A outer s H vs Q E hr h => ?_)
  · obtain ⟨p, dx, n, d, r, b, c, rfl, _⟩ := h
    rfl
  · obtain ⟨p, dx, n, d, r, b, c, rfl, hp, k⟩ := h
    refine ⟨_, (pss_cons (ps_fld (pv 0) (pv 1) rfl) (pss_cons (ps_fld (pv 0) (pv 2) rfl) (pss_cons (ps_fld (pv 0) (pv 3) rfl) (pss_cons (ps_fld (pv 0) (pv 4) rfl) (pss_one (ps_fld (pv 0) (pv 5) rfl)))))), ?_⟩
    refine ⟨_, rfl, _, rfl, p, C, dx, [], rfl, hp, T.cl, T.n_role, (by show 0 < 1000; decide), ?_⟩
    refine ⟨_, rfl, _, rfl, p, C, dx, _, rfl, upd_same, T.cl, T.n_name, Nat.lt_of_le_of_lt (len_put (n := 0) (Nat.le_refl _)) (by decide), ?_⟩
    refine ⟨_, rfl, _, rfl, p, C, dx, _, rfl, upd_same, T.cl, T.n_back, Nat.lt_of_le_of_lt (len_put (n := 1) (len_put (n := 0) (Nat.le_refl _))) (by decide), ?_⟩
    refine ⟨_, rfl, _, rfl, p, C, dx, _, rfl, upd_same, T.cl, T.n_copies, Nat.lt_of_le_of_lt (len_put (n := 2) (len_put (n := 1) (len_put (n := 0) (Nat.le_refl _)))) (by decide), ?_⟩
    refine ⟨_, rfl, _, rfl, p, C, dx, _, rfl, upd_same, T.cl, T.n_design, Nat.lt_of_le_of_lt (len_put (n := 3) (len_put (n := 2) (len_put (n := 1) (len_put (n := 0) (Nat.le_refl _))))) (by decide), ?_⟩
    refine k _ upd_same fun b o e hb => ?_
    rw [upd_ne hb, upd_ne hb, upd_ne hb, upd_ne hb, upd_ne hb]
    exact e
/-! ### codes -/
theorem d_codes (F : Tx K mg "codes" ["letters"] s_codes) (T : Txt K mg C aS) : Dn P w K mg base 1 "codes" ["letters"] spCodes := by
  have nd := sc_codes.nd
  refine F.dn sc_codes (fun vs H Q E h => ?_) (fun f cdv A outer s H vs Q E hr h => ?_)
  · obtain ⟨x, rfl, _⟩ := h
    rfl
  · obtain ⟨x, rfl, hx, k⟩ := h
    refine ⟨_, (pss_one (ps_ret (pe_lc rfl nd (pi_str (pv 0)) (blkOk_by (own := [("letter", 1)]) (by rfl)) (fun _ _ _ _ _ => (pg_name (i := 1) nd rfl (Or.inl rfl))) (fun _ _ _ _ _ => pts_nil) (fun _ _ _ _ _ => (pe_callB call_ord (by rfl) T.ord boot_ord (pa_cons (pv 1) pa_nil)))))), ?_⟩
    refine ⟨_, rfl, x, rfl, fun D hD => lc_str (fun i H' => Same H H' ∧ H' D = some (.lst (zs ((codesOf x).take i)))) ⟨Same.upd_new (Same.refl H) hD, upd_same⟩ ?_ ?_⟩
    · rintro i c H' hc ⟨s1, e1⟩
      have hi : i < x.cps.size := by
        obtain ⟨hh, _⟩ := Array.getElem?_eq_some_iff.mp hc
        exact hh
      refine ⟨rfl, ?_⟩
      unfold tYes
      dsimp only
      rw [if_pos rfl]
      refine ⟨_, rfl, _, rfl, rfl, _, e1, ?_, Same.upd_own s1 hD, ?_⟩
      · rw [ints_len, List.length_take, codesOf_len]
        exact line70 (by omega)
      · rw [upd_same]
        have hz : (codesOf x)[i]? = some (c : Int) := by
          unfold codesOf
          rw [List.getElem?_map, Array.getElem?_toList, hc]
          rfl
        rw [take_snoc hz]
        show some (HO.lst (zs ((codesOf x).take i) ++ [V.int (((#[c] : Array Nat).getD 0 0 : Nat) : Int)])) = some (HO.lst (zs ((codesOf x).take i ++ [(c : Int)])))
        rw [zs, zs, List.map_append]
        rfl
    · rintro H' ⟨s1, e1⟩
      rw [← codesOf_len, List.take_length] at e1
      exact k H' D s1 hD e1
/-! ### split_at -/
theorem d_split (F : Tx K mg "split_at" ["row", "mark"] s_split_at) : Dn P w K mg base 1 "split_at" ["row", "mark"] (spSplit K) := by
  have nd := sc_split_at.nd
  refine F.dn sc_split_at (fun vs H Q E h => ?_) (fun f cdv A outer s H vs Q E hr h => ?_)
  · obtain ⟨a, m, row, rfl, _⟩ := h
    rfl
  · obtain ⟨a, m, row, rfl, hS, hl, k⟩ := h
    refine ⟨_, (pss_cons (ps_set (i := 2) nd rfl (Or.inl rfl) (pe_lst pa_nil)) (pss_cons (ps_set (i := 3) nd rfl (Or.inl rfl) (pe_lst pa_nil)) (pss_cons (ps_for PassesOwn.never rfl (pi_list (pv 0)) (pg_name (i := 4) nd rfl (Or.inl rfl)) (pss_one (ps_if (pt_cmpR op_eq (pv 4) (pv 1) (nomark _)) (pss_cons (ps_expr (pe_bm PySem.F.plainAttrs_list PySem.F.slot_list_append PySem.F.type_list_append mt_append (pv 2) (pa_cons (pv 3) pa_nil))) (pss_one (ps_set (i := 3) nd rfl (Or.inl rfl) (pe_lst pa_nil)))) (pss_one (ps_expr (pe_bm PySem.F.plainAttrs_list PySem.F.slot_list_append PySem.F.type_list_append mt_append (pv 3) (pa_cons (pv 4) pa_nil))))))) (pss_cons (ps_expr (pe_bm PySem.F.plainAttrs_list PySem.F.slot_list_append PySem.F.type_list_append mt_append (pv 2) (pa_cons (pv 3) pa_nil))) (pss_one (ps_ret (pv 2))))))), ?_⟩
    refine ⟨Nat.zero_le _, fun lp hlp => ?_⟩
    refine ⟨Nat.zero_le _, fun lq hlq => ?_⟩
    have nlq : lq ≠ lp := fun q => by rw [q, upd_same] at hlq; cases hlq
    have hlq0 : H lq = none := by rw [upd_ne nlq] at hlq; exact hlq
    have s0 : Same H (upd (upd H lp (.lst [])) lq (.lst [])) := Same.upd_new (Same.upd_new (Same.refl H) hlp) hlq
    refine ⟨_, rfl, a, rfl, ⟨_, s0.seq hS⟩, for_list (K := K) (a := a) (xs := zs row) (fun i σ H' => ∃ (q : Addr) (as : List Addr) (ws : List (List Int)) (part : List Int) (v : Option V), σ = [some (.ref a), some (.int m), some (.ref lp), some (.ref q), v] ∧ Same H H' ∧
        H' lp = some (.lst (as.map V.ref)) ∧ LI H' q part ∧ M.All2 (fun b w => b ≠ lp ∧ b ≠ q ∧ H b = none ∧ LI H' b w) as ws ∧ q ≠ lp ∧ H q = none ∧ M.cutI m row = ws ++ M.glue part (M.cutI m (row.drop i)) ∧ as.length ≤ i ∧ part.length ≤ i)
      ⟨lq, [], [], [], none, rfl, s0, by rw [upd_ne nlq.symm, upd_same]; rfl, upd_same, .nil, nlq, hlq0, by rw [M.glue_nil (M.cutI_ne _ _)]; rfl, Nat.le_refl _, Nat.le_refl _⟩ (fun i σ H' _ ⟨_, _, _, _, _, _, s1, _⟩ => s1.seq hS) ?_ ?_⟩
    · rintro i y σ H' hi ⟨q, as, ws, part, v, rfl, s1, e1, e2, e3, nq, hq, ec, la, lp'⟩
      obtain ⟨z, hz, rfl⟩ := ints_at hi
      have hir : i < row.length := (List.getElem?_eq_some_iff.mp hz).1
      rw [drop_cons hz] at ec
      refine ⟨_, rfl, _, rfl, rfl, _, rfl, ite2 (fun hm => ?_) (fun hm => ?_)⟩
      · have hm : z = m := V.int.inj (of_decide_eq_true hm)
        subst hm
        rw [M.cut_mark] at ec
        refine ⟨_, rfl, .inl ⟨rfl, _, SqL.of e1⟩, _, rfl, lp, _, _, rfl, rfl, e1, (by rw [List.length_map]; exact line70 (by omega)), ?_⟩
        refine ⟨Nat.zero_le _, fun q2 hq2 => ?_⟩
        have n2 : q2 ≠ lp := fun e => by rw [e, upd_same] at hq2; cases hq2
        have hq2' : H' q2 = none := by rw [upd_ne n2] at hq2; exact hq2
        have s2 : Same H (upd (upd H' lp (.lst (as.map V.ref ++ [V.ref q]))) q2 (.lst [])) := Same.upd_new (Same.upd_own s1 hlp) hq2
        have old : ∀ (b : Addr) (o : HO), b ≠ lp → H' b = some o → (upd (upd H' lp (.lst (as.map V.ref ++ [V.ref q]))) q2 (.lst [])) b = some o := fun b o nb e => by
          rw [upd_ne (ne_of_none e hq2'), upd_ne nb]
          exact e
        refine ⟨q2, as ++ [q], ws ++ [part], [], _, rfl, s2, ?_, upd_same, ?_, n2, s1.free hq2', ?_, ?_, Nat.zero_le _⟩
        · rw [upd_ne n2.symm, upd_same, List.map_append]
          rfl
        · refine M.All2.snoc ⟨nq, ne_of_none e2 hq2', hq, old q _ nq e2⟩ (M.All2.imp (fun b u hb => ?_) e3)
          exact ⟨hb.1, ne_of_none hb.2.2.2 hq2', hb.2.2.1, old b _ hb.1 hb.2.2.2⟩
        · rw [ec, List.append_assoc]
          rfl
        · rw [List.length_append, List.length_singleton]
          omega
      · have hm : ¬ z = m := fun e => hm (decide_eq_true (by rw [e]))
        rw [M.cut_other _ hm] at ec
        refine ⟨_, rfl, .inl ⟨rfl, _, SqL.of e2⟩, _, rfl, q, _, _, rfl, rfl, e2, (by rw [ints_len]; exact line70 (by omega)), ?_⟩
        refine ⟨q, as, ws, part ++ [z], _, rfl, Same.upd_own s1 hq, ?_, ?_, M.All2.imp (fun b u hb => ?_) e3, nq, hq, ec, by omega, ?_⟩
        · rw [upd_ne nq.symm]
          exact e1
        · show (upd H' q _) q = _
          rw [upd_same, zs, zs, List.map_append]
          rfl
        · refine ⟨hb.1, hb.2.1, hb.2.2.1, ?_⟩
          show (upd H' q _) b = _
          rw [upd_ne hb.2.1]
          exact hb.2.2.2
        · rw [List.length_append, List.length_singleton]
          omega
    · rintro σ H' ⟨q, as, ws, part, v, rfl, s1, e1, e2, e3, nq, hq, ec, la, lp'⟩
      rw [ints_len] at ec la
      rw [List.drop_length] at ec
      refine ⟨_, rfl, .inl ⟨rfl, _, SqL.of e1⟩, _, rfl, lp, _, _, rfl, rfl, e1, (by rw [List.length_map]; exact line70 (by omega)), ?_⟩
      refine ⟨_, rfl, ?_⟩
      refine k _ lp (as ++ [q]) (Same.upd_own s1 hlp) hlp ?_ ?_
      · rw [upd_same, List.map_append]
        rfl
      · rw [ec]
        show M.All2 _ _ (ws ++ [part ++ []])
        rw [List.append_nil]
        refine M.All2.snoc ⟨nq, hq, ?_⟩ (M.All2.imp (fun b u hb => ?_) e3)
        · refine ⟨hb.1, hb.2.2.1, ?_⟩
          show (upd H' lp _) b = _
          rw [upd_ne hb.1]
          exact hb.2.2.2
        · show (upd H' lp _) q = _
          rw [upd_ne nq]
          exact e2
/-! ### made_of -/
theorem d_made_of (F : Tx K mg "made_of" ["word", "letters"] s_made_of) (D_codes : Dn P w K mg base 1 "codes" ["letters"] spCodes) : Dn P w K mg base 2 "made_of" ["word", "letters"] (spMadeOf K) := by
  have nd := sc_made_of.nd
  refine F.dn sc_made_of (fun vs H Q E h => ?_) (fun f cdv A outer s H vs Q E hr h => ?_)
  · obtain ⟨a, u, x, rfl, _⟩ := h
    rfl
  · obtain ⟨a, u, x, rfl, hS, hx, k⟩ := h
    refine ⟨_, (pss_cons (ps_set (i := 2) nd rfl (Or.inl rfl) (pe_cd D_codes hr (by first | decide | omega) (by rfl) (pa_cons (pv 1) pa_nil))) (pss_cons (ps_for PassesOwn.never rfl (pi_list (pv 0)) (pg_name (i := 3) nd rfl (Or.inl rfl)) (pss_one (ps_if (pt_cmpR op_notIn_seq (pv 3) (pv 2) (by with_unfolding_all rfl)) (pss_one (ps_ret pe_bl)) pss_nil))) (pss_one (ps_ret pe_bl)))), ?_⟩
    refine ⟨_, rfl, x, rfl, hx, fun H1 p s1 n1 e1 => ?_⟩
    refine ⟨_, rfl, a, rfl, ⟨_, s1.seq hS⟩, for_list (K := K) (a := a) (xs := zs u) (fun i σ H' => ∃ v : Option V, σ = [some (.ref a), some (.str x), some (.ref p), v] ∧ H' = H1 ∧ M.madeOf (codesOf x) (u.take i) = true)
      ⟨none, rfl, rfl, rfl⟩ (fun i σ H' _ ⟨_, _, e, _⟩ => by rw [e]; exact s1.seq hS) ?_ ?_⟩
    · rintro i y σ H' hi ⟨v, rfl, rfl, hm⟩
      obtain ⟨z, hz, rfl⟩ := ints_at hi
      refine ⟨_, rfl, _, rfl, p, _, rfl, .inl (SqL.of e1), rfl, flat_ints _, _, rfl, ?_⟩
      show if (!inV (.int z) (zs (codesOf x))) = true then _ else _
      rw [inV_ints]
      cases hc : (codesOf x).contains z with
      | false =>
        refine itB rfl ?_
        have e : M.madeOf (codesOf x) u = false := by
          unfold M.madeOf
          rw [List.all_eq_false]
          exact ⟨z, List.mem_of_getElem? hz, by rw [hc]; decide⟩
        show Q (.bl false) _
        rw [← e]
        exact k _ s1
      | true =>
        refine itN rfl ?_
        refine ⟨_, rfl, rfl, ?_⟩
        rw [take_snoc hz]
        unfold M.madeOf at hm ⊢
        rw [List.all_append, hm, List.all_cons, hc]
        rfl
    · rintro σ H' ⟨v, rfl, rfl, hm⟩
      rw [ints_len, List.take_length] at hm
      show Q (.bl true) _
      rw [← hm]
      exact k _ s1
/-! ### is_name, is_look, is_shape -/
theorem nl_codes : codesOf ("ABCDEFGHIJKLMNOPQRSTUVWXYZ0123456789" : Str) = M.NL := by decide +kernel
theorem hl_codes : codesOf ("0123456789abcdef" : Str) = M.HL := by decide +kernel
theorem sq_codes : codesOf ("square" : Str) = M.wSquare := by decide +kernel
theorem ta_codes : codesOf ("tails" : Str) = M.wTails := by decide +kernel
theorem lo_codes : codesOf ("long" : Str) = M.wLong := by decide +kernel
theorem lk_codes : codesOf ("locker" : Str) = M.wLocker := by decide +kernel
theorem an_codes : codesOf ("answer" : Str) = M.wAnswer := by decide +kernel
theorem si_codes : codesOf ("sign" : Str) = M.wSign := by decide +kernel
theorem sa_codes : codesOf ("same" : Str) = M.wSame := by decide +kernel
theorem d_is_name (F : Tx K mg "is_name" ["word"] s_is_name) (T : Txt K mg C aS) (D_made_of : Dn P w K mg base 2 "made_of" ["word", "letters"] (spMadeOf K)) : Dn P w K mg base 3 "is_name" ["word"] (spWord K M.nameOk) := by
  have nd := sc_is_name.nd
  refine F.dn sc_is_name (fun vs H Q E h => ?_) (fun f cdv A outer s H vs Q E hr h => ?_)
  · obtain ⟨a, u, rfl, _⟩ := h
    rfl
  · obtain ⟨a, u, rfl, hS, k⟩ := h
    refine ⟨_, (pss_one (ps_ret (pe_and (pe_cmpR op_ge (pe_callB call_len_seq (by rfl) T.len PySem.boot_len (pa_cons (pv 0) pa_nil)) pe_int (nomark _)) (pe_and (pe_cmpR op_le (pe_callB call_len_seq (by rfl) T.len PySem.boot_len (pa_cons (pv 0) pa_nil)) (pe_gi T.c_MOST_NAME) (nomark _)) (pe_one (pe_cd D_made_of hr (by first | decide | omega) (by rfl) (pa_cons (pv 0) (pa_cons (pe_gs T.c_NAME_LETTERS) pa_nil)))))))), ?_⟩
    refine ⟨_, rfl, a, _, rfl, .inl hS, _, _, rfl, rfl, _, rfl, ?_⟩
    rw [ints_len]
    by_cases h1 : 1 ≤ u.length
    · refine itB (decide_eq_true (by omega)) ?_
      refine ⟨_, rfl, a, _, rfl, .inl hS, _, _, rfl, rfl, _, rfl, ?_⟩
      rw [ints_len]
      by_cases h2 : u.length ≤ 8
      · refine itB (decide_eq_true (by omega)) ?_
        refine ⟨_, rfl, a, u, _, rfl, hS, (by decide), fun H' s1 => ?_⟩
        rw [nl_codes]
        have e : M.madeOf M.NL u = M.nameOk u := by
          unfold M.nameOk
          rw [decide_eq_true h1, decide_eq_true h2]
          rfl
        rw [e]
        exact k H' s1
      · refine itN (decide_eq_false (by omega)) ?_
        have e : M.nameOk u = false := by
          unfold M.nameOk
          rw [decide_eq_false h2]
          simp
        rw [← e]
        exact k _ (Same.refl _)
    · refine itN (decide_eq_false (by omega)) ?_
      have e : M.nameOk u = false := by
        unfold M.nameOk
        rw [decide_eq_false h1]
        rfl
      rw [← e]
      exact k _ (Same.refl _)
theorem d_is_look (F : Tx K mg "is_look" ["word"] s_is_look) (T : Txt K mg C aS) (D_made_of : Dn P w K mg base 2 "made_of" ["word", "letters"] (spMadeOf K)) : Dn P w K mg base 3 "is_look" ["word"] (spWord K M.lookOk) := by
  have nd := sc_is_look.nd
  refine F.dn sc_is_look (fun vs H Q E h => ?_) (fun f cdv A outer s H vs Q E hr h => ?_)
  · obtain ⟨a, u, rfl, _⟩ := h
    rfl
  · obtain ⟨a, u, rfl, hS, k⟩ := h
    refine ⟨_, (pss_one (ps_ret (pe_and (pe_cmpR op_eq (pe_callB call_len_seq (by rfl) T.len PySem.boot_len (pa_cons (pv 0) pa_nil)) (pe_gi T.c_LOOK_CELLS) (nomark _)) (pe_one (pe_cd D_made_of hr (by first | decide | omega) (by rfl) (pa_cons (pv 0) (pa_cons (pe_gs T.c_LOOK_LETTERS) pa_nil))))))), ?_⟩
    refine ⟨_, rfl, a, _, rfl, .inl hS, rfl, _, rfl, ?_⟩
    rw [ints_len, eqI]
    by_cases h1 : u.length = 16
    · refine itB (decide_eq_true (by omega)) ?_
      refine ⟨_, rfl, a, u, _, rfl, hS, (by decide), fun H' s1 => ?_⟩
      rw [hl_codes]
      have e : M.madeOf M.HL u = M.lookOk u := by
        unfold M.lookOk
        rw [decide_eq_true h1]
        rfl
      rw [e]
      exact k H' s1
    · refine itN (decide_eq_false (by omega)) ?_
      have e : M.lookOk u = false := by
        unfold M.lookOk
        rw [decide_eq_false h1]
        rfl
      rw [← e]
      exact k _ (Same.refl _)
theorem d_is_shape (F : Tx K mg "is_shape" ["word"] s_is_shape) (T : Txt K mg C aS) (D_codes : Dn P w K mg base 1 "codes" ["letters"] spCodes) : Dn P w K mg base 2 "is_shape" ["word"] (spWord K M.shapeOk) := by
  have nd := sc_is_shape.nd
  refine F.dn sc_is_shape (fun vs H Q E h => ?_) (fun f cdv A outer s H vs Q E hr h => ?_)
  · obtain ⟨a, u, rfl, _⟩ := h
    rfl
  · obtain ⟨a, u, rfl, hS, k⟩ := h
    refine ⟨_, (pss_cons (ps_for PassesOwn.never rfl (pi_tup (pe_gr T.c_SHAPES)) (pg_name (i := 1) nd rfl (Or.inl rfl)) (pss_one (ps_if (pt_cmpR (op_eqD hr.units) (pv 0) (pe_cd D_codes hr (by first | decide | omega) (by rfl) (pa_cons (pv 1) pa_nil)) (nomark _)) (pss_one (ps_ret pe_bl)) pss_nil))) (pss_one (ps_ret pe_bl))), ?_⟩
    refine ⟨aS, rfl, ⟨_, T.shapes _⟩, for_tup (K := K) (a := aS) (xs := [.str "square", .str "tails", .str "long"]) (fun i σ H' => ∃ v : Option V, σ = [some (.ref a), v] ∧ Same H H' ∧ ∀ j, j < i → ¬ ([M.wSquare, M.wTails, M.wLong] : List (List Int))[j]? = some u)
      ⟨none, rfl, Same.refl _, fun j hj => absurd hj (Nat.not_lt_zero _)⟩ (fun i σ H' _ _ => T.shapes _) ?_ ?_⟩
    · rintro i y σ H' hi ⟨v, rfl, s1, hn⟩
      obtain ⟨x, wx, rfl, hx, hw, hsz⟩ : ∃ (x : Str) (wx : List Int), y = .str x ∧ codesOf x = wx ∧ ([M.wSquare, M.wTails, M.wLong] : List (List Int))[i]? = some wx ∧ x.cps.size ≤ 70000 := by
        match i, hi with
        | 0, hi => exact ⟨"square", _, (Option.some.inj hi).symm, sq_codes, rfl, by decide +kernel⟩
        | 1, hi => exact ⟨"tails", _, (Option.some.inj hi).symm, ta_codes, rfl, by decide +kernel⟩
        | 2, hi => exact ⟨"long", _, (Option.some.inj hi).symm, lo_codes, rfl, by decide +kernel⟩
        | i + 3, hi => simp at hi
      refine ⟨_, rfl, _, rfl, x, rfl, hsz, fun H2 p s2 n2 e2 => ?_⟩
      rw [hx] at e2
      refine ⟨di u, di wx, dp_sq (s2.seq (s1.seq hS)), dp_sq e2.sq, shaped_di _, shaped_di _, _, rfl, ?_⟩
      rw [eqv_di]
      by_cases e : u = wx
      · refine itB (decide_eq_true e) ?_
        have es : M.shapeOk u = true := by
          unfold M.shapeOk
          match i, hw with
          | 0, hw =>
            have : M.wSquare = wx := Option.some.inj hw
            rw [e, ← this]
            decide
          | 1, hw =>
            have : M.wTails = wx := Option.some.inj hw
            rw [e, ← this]
            decide
          | 2, hw =>
            have : M.wLong = wx := Option.some.inj hw
            rw [e, ← this]
            decide
          | i + 3, hw => simp at hw
        show Q (.bl true) _
        rw [← es]
        exact k _ (s1.trans s2)
      · refine itN (decide_eq_false e) ?_
        refine ⟨_, rfl, s1.trans s2, fun j hj => ?_⟩
        by_cases hji : j = i
        · rw [hji, hw]
          intro q
          exact e (Option.some.inj q).symm
        · exact hn j (by omega)
    · rintro σ H' ⟨v, rfl, s1, hn⟩
      have es : M.shapeOk u = false := by
        unfold M.shapeOk
        have h0 := hn 0 (by decide)
        have h1 := hn 1 (by decide)
        have h2 := hn 2 (by decide)
        have h0 : ¬ u = M.wSquare := fun q => h0 (by rw [q]; rfl)
        have h1 : ¬ u = M.wTails := fun q => h1 (by rw [q]; rfl)
        have h2 : ¬ u = M.wLong := fun q => h2 (by rw [q]; rfl)
        rw [decide_eq_false h0, decide_eq_false h1, decide_eq_false h2]
        rfl
      show Q (.bl false) _
      rw [← es]
      exact k _ s1
/-! ### digit_of -/
theorem digit_one (most x : Int) : M.digit most [x] = if 1 ≤ x - 48 ∧ x - 48 ≤ most then x - 48 else 0 := rfl
theorem digit_not {most : Int} : ∀ {u : List Int}, u.length ≠ 1 → M.digit most u = 0
  | [], _ => rfl
  | [_], h => absurd rfl h
  | _ :: _ :: _, _ => rfl
theorem d_digit (F : Tx K mg "digit_of" ["word", "most"] s_digit_of) (T : Txt K mg C aS) : Dn P w K mg base 1 "digit_of" ["word", "most"] (spDigit K) := by
  have nd := sc_digit_of.nd
  refine F.dn sc_digit_of (fun vs H Q E h => ?_) (fun f cdv A outer s H vs Q E hr h => ?_)
  · obtain ⟨a, u, m, rfl, _⟩ := h
    rfl
  · obtain ⟨a, u, m, rfl, hS, k⟩ := h
    refine ⟨_, (pss_cons (ps_if (pt_cmpR op_ne (pe_callB call_len_seq (by rfl) T.len PySem.boot_len (pa_cons (pv 0) pa_nil)) pe_int (nomark _)) (pss_one (ps_ret pe_int)) pss_nil) (pss_cons (ps_set (i := 2) nd rfl (Or.inl rfl) (pe_op op_sub (pe_ix ix_list (pv 0) pe_int (fun _ _ => rfl)) (pe_callB call_ord (by rfl) T.ord boot_ord (pa_cons pe_str pa_nil)))) (pss_cons (ps_if ((pw_and (pt_cmpR op_ge (pv 2) pe_int (nomark _)) (pw_and1 (pt_cmpR op_le (pv 2) (pv 1) (nomark _))))).pt (pss_one (ps_ret (pv 2))) pss_nil) (pss_one (ps_ret pe_int))))), ?_⟩
    refine ⟨_, rfl, a, _, rfl, .inl hS, rfl, _, rfl, ?_⟩
    rw [ints_len, eqI]
    by_cases h1 : u.length = 1
    · refine itN (by rw [decide_eq_true (by omega)]; rfl) ?_
      obtain ⟨x, rfl⟩ : ∃ x, u = [x] := by
        match u, h1 with
        | [x], _ => exact ⟨x, rfl⟩
      refine ⟨_, rfl, a, _, _, _, rfl, rfl, hS, at_of (j := 0) rfl rfl, _, rfl, rfl, _, _, rfl, rfl, ?_⟩
      rw [digit_one] at k
      have e48 : (((("0" : Str).cps.getD 0 0 : Nat)) : Int) = 48 := by decide +kernel
      rw [e48]
      by_cases h2 : 1 ≤ x - 48
      · refine ⟨_, rfl, _, _, rfl, rfl, _, rfl, itB (decide_eq_true h2) ?_⟩
        refine ⟨_, rfl, _, rfl, _, _, rfl, rfl, _, rfl, ?_⟩
        by_cases h3 : x - 48 ≤ m
        · refine itB (decide_eq_true h3) ?_
          rw [if_pos ⟨h2, h3⟩] at k
          exact ⟨_, rfl, k⟩
        · refine itN (decide_eq_false h3) ?_
          rw [if_neg (fun q => h3 q.2)] at k
          exact k
      · refine ⟨_, rfl, _, _, rfl, rfl, _, rfl, itN (decide_eq_false h2) ?_⟩
        rw [if_neg (fun q => h2 q.1)] at k
        exact iteF k
    · refine itB (by rw [decide_eq_false (by omega)]; rfl) ?_
      rw [digit_not h1] at k
      exact k
end
end Fl
set_option Elab.async false
set_option linter.all false
set_option maxRecDepth 100000
namespace Fl
open PySem PySem.Spec PyProof.Rows L2
open PySem.W (Codec)
section
variable {P : Program} {w : World} {K : PySem.W.Frag} {mg : Str → Option Value} {base : Heap} {C aS : Addr}
theorem seqI {t u : TS} {D : Ends} {σ : L2.St} {H : Hp} (h : ∀ NX : L2.St → Hp → Prop, (∀ σ' H', u D σ' H' → NX σ' H') → t { D with nx := NX } σ H) : tSeq t u D σ H := h (u D) fun _ _ x => x
/-! ### is_locker_line -/
theorem locker_not : ∀ {ws : List (List Int)}, ws.length ≠ 2 → M.lockerLine ws = false
  | [], _ => rfl
  | [_], _ => rfl
  | [_, _], h => absurd rfl h
  | _ :: _ :: _ :: _, _ => rfl
theorem WS.len {H : Hp} {as : List Addr} {ws : List (List Int)} (h : WS H as ws) : as.length = ws.length := M.All2.len h
theorem d_locker_line (F : Tx K mg "is_locker_line" ["words"] s_is_locker_line) (T : Txt K mg C aS) (D_codes : Dn P w K mg base 1 "codes" ["letters"] spCodes) (D_is_name : Dn P w K mg base 3 "is_name" ["word"] (spWord K M.nameOk)) :
    Dn P w K mg base 4 "is_locker_line" ["words"] (spWords M.lockerLine) := by
  have nd := sc_is_locker_line.nd
  refine F.dn sc_is_locker_line (fun vs H Q E h => ?_) (fun f cdv A outer s H vs Q E hr h => ?_)
  · obtain ⟨a, as, ws, rfl, _⟩ := h
    rfl
  · obtain ⟨a, as, ws, rfl, ha, hw, k⟩ := h
    have hlen := hw.len
    refine ⟨_, (pss_one (ps_ret (pe_and (pe_cmpR op_eq (pe_callB call_len_seq (by rfl) T.len PySem.boot_len (pa_cons (pv 0) pa_nil)) pe_int (nomark _)) (pe_and (pe_cmpR (op_eqD hr.units) (pe_ix ix_list (pv 0) pe_int (fun _ _ => rfl)) (pe_cd D_codes hr (by first | decide | omega) (by rfl) (pa_cons pe_str pa_nil)) (nomark _)) (pe_one (pe_cd D_is_name hr (by first | decide | omega) (by rfl) (pa_cons (pe_ix ix_list (pv 0) pe_int (fun _ _ => rfl)) pa_nil))))))), ?_⟩
    refine ⟨_, rfl, a, _, rfl, .inl (SqL.of ha), rfl, _, rfl, ?_⟩
    rw [List.length_map, eqI]
    by_cases h1 : ws.length = 2
    · refine itB (decide_eq_true (by omega)) ?_
      cases hw with
      | nil => simp at h1
      | @cons a1 w1 as ws e1 t =>
        cases t with
        | nil => simp at h1
        | @cons a2 w2 as ws e2 t =>
          cases t with
          | cons _ _ => simp at h1
          | nil =>
            refine ⟨_, rfl, a, _, _, _, rfl, rfl, SqL.of ha, at_of (j := 0) rfl rfl, "locker", rfl, (by decide +kernel), fun H1 p s1 n1 f1 => ?_⟩
            rw [lk_codes] at f1
            refine ⟨di w1, di M.wLocker, dp_sq (LI.same e1 s1).sq, dp_sq f1.sq, shaped_di _, shaped_di _, _, rfl, ?_⟩
            rw [eqv_di]
            by_cases h2 : w1 = M.wLocker
            · refine itB (decide_eq_true h2) ?_
              refine ⟨_, rfl, a, _, _, _, rfl, rfl, SqL.of (s1 _ _ ha), at_of (j := 1) rfl rfl, a2, w2, rfl, (LI.same e2 s1).sq, fun H2 s2 => ?_⟩
              have e : M.nameOk w2 = M.lockerLine [w1, w2] := by
                show _ = (decide (w1 = M.wLocker) && M.nameOk w2)
                rw [decide_eq_true h2]
                rfl
              rw [e]
              exact k H2 (s1.trans s2)
            · refine itN (decide_eq_false h2) ?_
              have e : M.lockerLine [w1, w2] = false := by
                show (decide (w1 = M.wLocker) && M.nameOk w2) = false
                rw [decide_eq_false h2]
                rfl
              rw [← e]
              exact k _ s1
    · refine itN (decide_eq_false (by omega)) ?_
      rw [← locker_not h1]
      exact k _ (Same.refl _)
/-! ### made_kind -/
theorem d_made_kind (F : Tx K mg "made_kind" ["role", "name", "back", "rest"] s_made_kind) (T : Txt K mg C aS) (D_digit_of : Dn P w K mg base 1 "digit_of" ["word", "most"] (spDigit K)) (D_is_shape : Dn P w K mg base 2 "is_shape" ["word"] (spWord K M.shapeOk))
    (D_is_look : Dn P w K mg base 3 "is_look" ["word"] (spWord K M.lookOk)) (C_Kind : Cn P w K mg base 1 "Kind" C ["self", "role", "name", "back", "copies", "design"] (spInit C)) :
    Dn P w K mg base 4 "made_kind" ["role", "name", "back", "rest"] (spMadeKind C) := by
  have nd := sc_made_kind.nd
  refine F.dn sc_made_kind (fun vs H Q E h => ?_) (fun f cdv A outer s H vs Q E hr h => ?_)
  · obtain ⟨fp, nm, rs, role, back, name, as, rest, rfl, _⟩ := h
    rfl
  · obtain ⟨fp, nm, rs, role, back, name, as, rest, rfl, hn, ha, hw, pf, pn, pa, k⟩ := h
    have hlen := hw.len
    refine ⟨_, (pss_cons (ps_if (pt_cmpR op_ne (pe_callB call_len_seq (by rfl) T.len PySem.boot_len (pa_cons (pv 3) pa_nil)) pe_int (nomark _)) (pss_one (ps_ret pe_non)) pss_nil) (pss_cons (ps_set (i := 4) nd rfl (Or.inl rfl) (pe_cd D_digit_of hr (by first | decide | omega) (by rfl) (pa_cons (pe_ix ix_list (pv 3) pe_int (fun _ _ => rfl)) (pa_cons (pe_gi T.c_MOST_COPIES) pa_nil)))) (pss_cons (ps_if ((pw_or (pt_cmpR op_eq (pv 4) pe_int (nomark _)) (pw_or (pt_not (pt_val (pe_cd D_is_shape hr (by first | decide | omega) (by rfl) (pa_cons (pe_ix ix_list (pv 3) pe_int (fun _ _ => rfl)) pa_nil)))) (pw_or1 (pt_not (pt_val (pe_cd D_is_look hr (by first | decide | omega) (by rfl) (pa_cons (pe_ix ix_list (pv 3) pe_int (fun _ _ => rfl)) pa_nil)))))))).pt (pss_one (ps_ret pe_non)) pss_nil) (pss_one (ps_ret (pe_mk C_Kind hr (by decide) (by rfl) (pa_cons (pv 0) (pa_cons (pv 1) (pa_cons (pv 2) (pa_cons (pv 4) (pa_cons (pe_slice sl_list (pv 3) (po_some pe_int) po_none) pa_nil))))))))))), ?_⟩
    refine ⟨_, rfl, rs, _, rfl, .inl (SqL.of ha), rfl, _, rfl, ?_⟩
    rw [List.length_map, eqI]
    by_cases h1 : rest.length = 3
    · refine itN (by rw [decide_eq_true (by omega)]; rfl) ?_
      cases hw with
      | nil => simp at h1
      | @cons a1 w1 as ws e1 t =>
        cases t with
        | nil => simp at h1
        | @cons a2 w2 as ws e2 t =>
          cases t with
          | nil => simp at h1
          | @cons a3 w3 as ws e3 t =>
            cases t with
            | cons _ _ => simp at h1
            | nil =>
              have em : M.madeKind role name back [w1, w2, w3] = if M.digit 8 w1 = 0 ∨ M.shapeOk w2 = false ∨ M.lookOk w3 = false then none else some ⟨role, name, back, M.digit 8 w1, [w2, w3]⟩ := rfl
              rw [em] at k
              refine ⟨_, rfl, rs, _, _, _, rfl, rfl, SqL.of ha, at_of (j := 0) rfl rfl, a1, w1, _, rfl, e1.sq, ?_⟩
              refine ⟨_, rfl, rfl, _, rfl, ?_⟩
              rw [eqI]
              by_cases h2 : M.digit 8 w1 = 0
              · refine itB (decide_eq_true h2) (iteT ?_)
                rw [if_pos (.inl h2)] at k
                exact k H .non (Same.refl _) rfl
              · refine itN (decide_eq_false h2) ?_
                refine ⟨_, rfl, rs, _, _, _, rfl, rfl, SqL.of ha, at_of (j := 1) rfl rfl, a2, w2, rfl, e2.sq, fun H1 s1 => ?_⟩
                refine ⟨_, rfl, ?_⟩
                cases h3 : M.shapeOk w2 with
                | false =>
                  refine itB rfl (iteT ?_)
                  rw [if_pos (.inr (.inl h3))] at k
                  exact k H1 .non s1 rfl
                | true =>
                  refine itN rfl ?_
                  refine ⟨_, rfl, rs, _, _, _, rfl, rfl, SqL.of (s1 _ _ ha), at_of (j := 2) rfl rfl, a3, w3, rfl, (LI.same e3 s1).sq, fun H2 s2 => ?_⟩
                  refine ⟨_, rfl, ?_⟩
                  cases h4 : M.lookOk w3 with
                  | false =>
                    refine itB rfl ?_
                    rw [if_pos (.inr (.inr h4))] at k
                    exact k H2 .non (s1.trans s2) rfl
                  | true =>
                    refine itN rfl ?_
                    rw [if_neg (by intro q; rcases q with q | q | q; exact h2 q; rw [h3] at q; cases q; rw [h4] at q; cases q)] at k
                    have s12 := s1.trans s2
                    refine ⟨_, rfl, _, rfl, _, rfl, _, rfl, _, rfl, _, rfl, rs, _, rfl, SqL.of (s12 _ _ ha), fun ds hds => ?_⟩
                    intro x dx nx ndx nex
                    refine ⟨x, dx, nm, ds, role, back, M.digit 8 w1, rfl, upd_same, fun H4 f4 k4 => ⟨rfl, ?_⟩⟩
                    have ecut : cutV ([a1, a2, a3].map V.ref) (some 1) none = [a2, a3].map V.ref := rfl
                    rw [ecut] at nx ndx k4
                    have s3 : Same H2 (upd H2 ds (.lst ([a2, a3].map V.ref))) := Same.upd_new (Same.refl _) hds
                    have s4 : Same (upd H2 ds (.lst ([a2, a3].map V.ref))) H4 := Same.made nx ndx k4
                    have s24 := s3.trans s4
                    have sall := s12.trans s24
                    refine k H4 (.ref x) sall ⟨x, rfl, dx, nm, ds, [a2, a3], f4, hn.same sall, s4 _ _ upd_same, .cons (LI.same e2 sall) (.cons (LI.same e3 sall) .nil), pf _ ((s12.trans s3).free nx), pn, pf _ (s12.free hds), fun z hz => pa z (List.mem_cons_of_mem _ hz)⟩
    · refine itB (by rw [decide_eq_false (by omega)]; rfl) ?_
      rw [M.madeKind_none h1] at k
      exact k H .non (Same.refl _) rfl
/-! ### read_kind -/
theorem cut_from (xs : List V) (k : Nat) : cutV xs (some (k : Int)) none = xs.drop k := by
  unfold cutV
  rw [HT.sIx_nat, HT.sIx_none]
  by_cases h : k ≤ xs.length
  · rw [Nat.min_eq_left h]
    exact List.take_of_length_le (by rw [List.length_drop]; exact Nat.le_refl _)
  · rw [Nat.min_eq_right (by omega), List.drop_length, List.take_nil, List.drop_eq_nil_of_le (by omega)]
theorem cut1 (xs : List V) : cutV xs (some 1) none = xs.drop 1 := cut_from xs 1
theorem cut2 (xs : List V) : cutV xs (some 2) none = xs.drop 2 := cut_from xs 2
theorem cut_to (xs : List V) (k : Nat) : cutV xs none (some (k : Int)) = xs.take k := by
  unfold cutV
  rw [HT.sIx_nat, HT.sIx_none, List.drop_zero, Nat.sub_zero]
  by_cases h : k ≤ xs.length
  · rw [Nat.min_eq_left h]
  · rw [Nat.min_eq_right (by omega), List.take_length, List.take_of_length_le (by omega)]
theorem d_read_kind (F : Tx K mg "read_kind" ["words"] s_read_kind) (T : Txt K mg C aS) (D_codes : Dn P w K mg base 1 "codes" ["letters"] spCodes) (D_digit_of : Dn P w K mg base 1 "digit_of" ["word", "most"] (spDigit K)) (D_is_name : Dn P w K mg base 3 "is_name" ["word"] (spWord K M.nameOk))
    (D_made_kind : Dn P w K mg base 4 "made_kind" ["role", "name", "back", "rest"] (spMadeKind C)) : Dn P w K mg base 5 "read_kind" ["words"] (spReadKind C) := by
  have nd := sc_read_kind.nd
  refine F.dn sc_read_kind (fun vs H Q E h => ?_) (fun f cdv A outer s H vs Q E hr h => ?_)
  · obtain ⟨fp, rs, as, words, rfl, _⟩ := h
    rfl
  · obtain ⟨fp, rs, as, words, rfl, ha, hw, hne, pf, pa, k⟩ := h
    refine ⟨_, (pss_cons (ps_if (pt_cmpR (op_eqD hr.units) (pe_ix ix_list (pv 0) pe_int (fun _ _ => rfl)) (pe_cd D_codes hr (by first | decide | omega) (by rfl) (pa_cons pe_str pa_nil)) (nomark _)) (pss_one (ps_ret (pe_cd D_made_kind hr (by first | decide | omega) (by rfl) (pa_cons (pe_gi T.c_ANSWER) (pa_cons (pe_lst pa_nil) (pa_cons pe_int (pa_cons (pe_slice sl_list (pv 0) (po_some pe_int) po_none) pa_nil))))))) pss_nil) (pss_cons (ps_if (pt_cmpR op_lt (pe_callB call_len_seq (by rfl) T.len PySem.boot_len (pa_cons (pv 0) pa_nil)) pe_int (nomark _)) (pss_one (ps_ret pe_non)) pss_nil) (pss_cons (ps_if ((pw_and (pt_cmpR (op_eqD hr.units) (pe_ix ix_list (pv 0) pe_int (fun _ _ => rfl)) (pe_cd D_codes hr (by first | decide | omega) (by rfl) (pa_cons pe_str pa_nil)) (nomark _)) (pw_and1 (pt_val (pe_cd D_is_name hr (by first | decide | omega) (by rfl) (pa_cons (pe_ix ix_list (pv 0) pe_int (fun _ _ => rfl)) pa_nil)))))).pt (pss_one (ps_ret (pe_cd D_made_kind hr (by first | decide | omega) (by rfl) (pa_cons (pe_gi T.c_SIGN) (pa_cons (pe_ix ix_list (pv 0) pe_int (fun _ _ => rfl)) (pa_cons pe_int (pa_cons (pe_slice sl_list (pv 0) (po_some pe_int) po_none) pa_nil))))))) pss_nil) (pss_cons (ps_set (i := 1) nd rfl (Or.inl rfl) (pe_cd D_digit_of hr (by first | decide | omega) (by rfl) (pa_cons (pe_ix ix_list (pv 0) pe_int (fun _ _ => rfl)) (pa_cons (pe_gi T.c_MOST_BACK) pa_nil)))) (pss_cons (ps_if ((pw_and (pt_cmpR (op_eqD hr.units) (pe_ix ix_list (pv 0) pe_int (fun _ _ => rfl)) (pe_cd D_codes hr (by first | decide | omega) (by rfl) (pa_cons pe_str pa_nil)) (nomark _)) (pw_and1 (pt_cmpR op_gt (pv 1) pe_int (nomark _))))).pt (pss_one (ps_ret (pe_cd D_made_kind hr (by first | decide | omega) (by rfl) (pa_cons (pe_gi T.c_SAME) (pa_cons (pe_lst pa_nil) (pa_cons (pv 1) (pa_cons (pe_slice sl_list (pv 0) (po_some pe_int) po_none) pa_nil))))))) pss_nil) (pss_one (ps_ret pe_non))))))), ?_⟩
    cases hw with
    | nil => exact absurd rfl hne
    | @cons a0 w0 as ws e0 t =>
      have ht : WS H as ws := t
      refine ⟨_, rfl, rs, _, _, _, rfl, rfl, SqL.of ha, at_of (j := 0) rfl rfl, "answer", rfl, (by decide +kernel), fun H1 p1 s1 n1 f1 => ?_⟩
      rw [an_codes] at f1
      refine ⟨di w0, di M.wAnswer, dp_sq (LI.same e0 s1).sq, dp_sq f1.sq, shaped_di _, shaped_di _, _, rfl, ?_⟩
      rw [eqv_di]
      by_cases hA : w0 = M.wAnswer
      · refine itB (decide_eq_true hA) ?_
        have ek : M.readKind (w0 :: ws) = M.madeKind 2 [] 0 ws := by
          show (if w0 = M.wAnswer then _ else _) = _
          rw [if_pos hA]
        rw [ek] at k
        refine ⟨Nat.zero_le _, fun ln hln => ?_⟩
        have s2 : Same H (upd H1 ln (.lst [])) := Same.upd_new s1 hln
        refine ⟨_, rfl, _, rfl, rs, _, rfl, SqL.of (s2 _ _ ha), fun q hq => ?_⟩
        have s3 : Same (upd H1 ln (.lst [])) (upd (upd H1 ln (.lst [])) q (.lst (cutV ((a0 :: as).map V.ref) (some 1) none))) := Same.upd_new (Same.refl _) hq
        refine ⟨fp, ln, q, 2, 0, [], as, ws, rfl, s3 _ _ upd_same, ?_, ht.same (s2.trans s3), fun b hb => pf b ((s2.trans s3).free hb), pf _ (s1.free hln), fun z hz => pa z (List.mem_cons_of_mem _ hz), fun H' v s' o' => k H' v ((s2.trans s3).trans s') o'⟩
        rw [upd_same, cut1]
        rfl
      · refine itN (decide_eq_false hA) ?_
        refine ⟨_, rfl, rs, _, rfl, .inl (SqL.of (s1 _ _ ha)), _, _, rfl, rfl, _, rfl, ?_⟩
        rw [List.length_map, List.length_cons]
        cases ht with
        | nil =>
          refine itB (decide_eq_true (by simp)) ?_
          have ek : M.readKind [w0] = none := by
            show (if w0 = M.wAnswer then _ else _) = _
            rw [if_neg hA]
          rw [ek] at k
          exact k H1 .non s1 rfl
        | @cons a1 w1 as ws e1 t2 =>
          have ht : WS H as ws := t2
          refine itN (decide_eq_false (by simp only [List.length_cons]; omega)) ?_
          have ek : M.readKind (w0 :: w1 :: ws) = if w0 = M.wSign ∧ M.nameOk w1 = true then M.madeKind 0 w1 0 ws else if w0 = M.wSame ∧ 0 < M.digit 4 w1 then M.madeKind 1 [] (M.digit 4 w1) ws else none := by
            show (if w0 = M.wAnswer then _ else _) = _
            rw [if_neg hA]
          rw [ek] at k
          -- the words behind the first two, as the last argument
          have more : ∀ (H2 : Hp) (role back : Int) (name : List Int) (nm q : Addr), Same H H2 → LI H2 nm name → fp nm → H2 q = none →
              (∀ (H' : Hp) (v : V), Same H H' → OptK C H' fp v (M.madeKind role name back ws) → Q v H') →
              spMadeKind C [.int role, .ref nm, .int back, .ref q] (upd H2 q (.lst (cutV ((a0 :: a1 :: as).map V.ref) (some 2) none))) Q E0 := by
            intro H2 role back name nm q s2 hn pn hq k2
            have s3 : Same H2 (upd H2 q (.lst (cutV ((a0 :: a1 :: as).map V.ref) (some 2) none))) := Same.upd_new (Same.refl _) hq
            refine ⟨fp, nm, q, role, back, name, as, ws, rfl, hn.same s3, ?_, ht.same (s2.trans s3), fun b hb => pf b ((s2.trans s3).free hb), pn, fun z hz => pa z (List.mem_cons_of_mem _ (List.mem_cons_of_mem _ hz)), fun H' v s' o' => k2 H' v ((s2.trans s3).trans s') o'⟩
            rw [upd_same, cut2]
            rfl
          unfold tNext
          dsimp only
          refine seqI fun NX hNX => ?_
          -- what comes behind the test for a sign
          have rest : ∀ H2 : Hp, Same H H2 → ¬ (w0 = M.wSign ∧ M.nameOk w1 = true) → NX [some (.ref rs), none] H2 := by
            intro H2 s2 hns
            refine hNX _ _ ?_
            rw [if_neg hns] at k
            refine ⟨_, rfl, rs, _, _, _, rfl, rfl, SqL.of (s2 _ _ ha), at_of (j := 1) rfl rfl, a1, w1, _, rfl, (LI.same e1 s2).sq, ?_⟩
            refine ⟨_, rfl, rs, _, _, _, rfl, rfl, SqL.of (s2 _ _ ha), at_of (j := 0) rfl rfl, "same", rfl, (by decide +kernel), fun H3 p3 s3 n3 f3 => ?_⟩
            rw [sa_codes] at f3
            have s13 := s2.trans s3
            refine ⟨di w0, di M.wSame, dp_sq (LI.same e0 s13).sq, dp_sq f3.sq, shaped_di _, shaped_di _, _, rfl, ?_⟩
            rw [eqv_di]
            by_cases hM : w0 = M.wSame
            · refine itB (decide_eq_true hM) ?_
              refine ⟨_, rfl, _, _, rfl, rfl, _, rfl, ?_⟩
              by_cases hD : 0 < M.digit 4 w1
              · refine itB (decide_eq_true hD) ?_
                rw [if_pos ⟨hM, hD⟩] at k
                refine ⟨Nat.zero_le _, fun ln hln => ?_⟩
                have s4 : Same H (upd H3 ln (.lst [])) := Same.upd_new s13 hln
                refine ⟨_, rfl, _, rfl, _, rfl, rs, _, rfl, SqL.of (s4 _ _ ha), fun q hq => ?_⟩
                exact more _ 1 (M.digit 4 w1) [] ln q s4 upd_same (pf _ (s13.free hln)) hq k
              · refine itN (decide_eq_false hD) ?_
                rw [if_neg (fun q => hD q.2)] at k
                exact k H3 .non s13 rfl
            · refine itN (decide_eq_false hM) (iteF ?_)
              rw [if_neg (fun q => hM q.1)] at k
              exact k H3 .non s13 rfl
          refine ⟨_, rfl, rs, _, _, _, rfl, rfl, SqL.of (s1 _ _ ha), at_of (j := 0) rfl rfl, "sign", rfl, (by decide +kernel), fun H2 p2 s2 n2 f2 => ?_⟩
          rw [si_codes] at f2
          have s12 := s1.trans s2
          refine ⟨di w0, di M.wSign, dp_sq (LI.same e0 s12).sq, dp_sq f2.sq, shaped_di _, shaped_di _, _, rfl, ?_⟩
          rw [eqv_di]
          by_cases hS : w0 = M.wSign
          · refine itB (decide_eq_true hS) ?_
            refine ⟨_, rfl, rs, _, _, _, rfl, rfl, SqL.of (s12 _ _ ha), at_of (j := 1) rfl rfl, a1, w1, rfl, (LI.same e1 s12).sq, fun H3 s3 => ?_⟩
            have s13 := s12.trans s3
            refine ⟨_, rfl, ?_⟩
            cases hN : M.nameOk w1 with
            | true =>
              refine itB rfl ?_
              rw [if_pos ⟨hS, hN⟩] at k
              refine ⟨_, rfl, rs, _, _, _, rfl, rfl, SqL.of (s13 _ _ ha), at_of (j := 1) rfl rfl, _, rfl, _, rfl, rs, _, rfl, SqL.of (s13 _ _ ha), fun q hq => ?_⟩
              exact more H3 0 0 w1 a1 q s13 (LI.same e1 s13) (pa a1 (by simp)) hq k
            | false =>
              refine itN rfl ?_
              exact rest H3 s13 (fun q => by rw [hN] at q; cases q.2)
          · refine itN (decide_eq_false hS) ?_
            exact rest H2 s12 (fun q => hS q.1)
/-! ### in_order, is_new, fits -/
theorem last_at {ks : List M.KD} {as : List Addr} {H : Hp} (h : Kinds C H as ks) (hne : ks ≠ []) : ∃ (a : Addr) (z : M.KD), atI (as.map V.ref) (-1) = some (.ref a) ∧ ks.getLast? = some z ∧ KindAt C H a z := by
  have hl := h.len
  have hks : ks = ks.dropLast ++ [ks.getLast hne] := (List.dropLast_concat_getLast hne).symm
  have hz : ks[ks.length - 1]? = some (ks.getLast hne) := by rw [← List.getLast?_eq_getElem?, List.getLast?_eq_some_getLast hne]
  obtain ⟨a, ha, hk⟩ := h.at' hz
  refine ⟨a, _, ?_, List.getLast?_eq_some_getLast hne, hk⟩
  have hne' : as ≠ [] := fun q => by rw [q] at hl; exact hne (List.eq_nil_of_length_eq_zero hl.symm)
  have hlast : as.getLast hne' = a := by
    have : as[as.length - 1]? = some a := by rw [hl]; exact ha
    rw [← List.getLast?_eq_getElem?, List.getLast?_eq_some_getLast hne'] at this
    exact Option.some.inj this
  have e : as.map V.ref = as.dropLast.map V.ref ++ [V.ref a] := by
    rw [← hlast]
    have := congrArg (List.map V.ref) (List.dropLast_concat_getLast hne')
    rw [List.map_append] at this
    exact this.symm
  rw [e]
  exact atI_last _ _
theorem d_in_order (F : Tx K mg "in_order" ["kinds", "kind"] s_in_order) (T : Txt K mg C aS) : Dn P w K mg base 1 "in_order" ["kinds", "kind"] (spKinds C M.inOrder) := by
  have nd := sc_in_order.nd
  refine F.dn sc_in_order (fun vs H Q E h => ?_) (fun f cdv A outer s H vs Q E hr h => ?_)
  · obtain ⟨l, a, as, ks, k, rfl, _⟩ := h
    rfl
  · obtain ⟨l, a, as, ks, k, rfl, hl, hks, hk, q⟩ := h
    have hlen := hks.len
    refine ⟨_, (pss_cons (ps_if (pt_cmpR op_eq (pe_callB call_len_seq (by rfl) T.len PySem.boot_len (pa_cons (pv 0) pa_nil)) pe_int (nomark _)) (pss_one (ps_ret pe_bl)) pss_nil) (pss_cons (ps_set (i := 2) nd rfl (Or.inl rfl) (pe_ix ix_list (pv 0) (pe_un un_neg pe_int) (fun _ _ => rfl))) (pss_cons (ps_if (pt_cmpR op_ne (pe_fld (pv 1) rfl) (pe_fld (pv 2) rfl) (nomark _)) (pss_one (ps_ret (pe_cmpR op_gt (pe_fld (pv 1) rfl) (pe_fld (pv 2) rfl) (nomark _)))) pss_nil) (pss_cons (ps_if (pt_cmpR op_eq (pe_fld (pv 1) rfl) (pe_gi T.c_SAME) (nomark _)) (pss_one (ps_ret (pe_cmpR op_gt (pe_fld (pv 1) rfl) (pe_fld (pv 2) rfl) (nomark _)))) pss_nil) (pss_one (ps_ret (pe_cmpR op_eq (pe_fld (pv 1) rfl) (pe_gi T.c_SIGN) (nomark _)))))))), ?_⟩
    refine ⟨_, rfl, l, _, rfl, .inl (SqL.of hl), rfl, _, rfl, ?_⟩
    rw [List.length_map, eqI]
    by_cases h0 : ks = []
    · subst h0
      refine itB (decide_eq_true (by simp at hlen; simp [hlen])) ?_
      exact q
    · have hn0 : ks.length ≠ 0 := fun e => h0 (List.eq_nil_of_length_eq_zero e)
      refine itN (decide_eq_false (by omega)) ?_
      obtain ⟨z0, z, hat, hz, dz, nz, dsz, asz, z1, z2, z3, z4⟩ := last_at hks h0
      obtain ⟨dx, nm, ds, as', k1, k2, k3, k4⟩ := hk
      have eo : M.inOrder ks k = if k.role = z.role then (if k.role = 1 then decide (z.back < k.back) else decide (k.role = 0)) else decide (z.role < k.role) := by
        unfold M.inOrder
        rw [hz]
      rw [eo] at q
      refine ⟨_, rfl, _, rfl, l, _, _, _, rfl, rfl, SqL.of hl, hat, ?_⟩
      refine ⟨_, rfl, a, C, dx, _, _, rfl, k1, T.cl, T.n_role, kf_role .., _, rfl, z0, C, dz, _, _, rfl, z1, T.cl, T.n_role, kf_role .., rfl, _, rfl, ?_⟩
      rw [eqI]
      by_cases h1 : k.role = z.role
      · refine itN (by rw [decide_eq_true h1]; rfl) ?_
        rw [if_pos h1] at q
        refine ⟨_, rfl, a, C, dx, _, _, rfl, k1, T.cl, T.n_role, kf_role .., rfl, _, rfl, ?_⟩
        rw [eqI]
        by_cases h2 : k.role = 1
        · refine itB (decide_eq_true h2) ?_
          rw [if_pos h2] at q
          exact ⟨_, rfl, a, C, dx, _, _, rfl, k1, T.cl, T.n_back, kf_back .., _, rfl, z0, C, dz, _, _, rfl, z1, T.cl, T.n_back, kf_back .., _, _, rfl, rfl, q⟩
        · refine itN (decide_eq_false h2) ?_
          rw [if_neg h2] at q
          refine ⟨_, rfl, a, C, dx, _, _, rfl, k1, T.cl, T.n_role, kf_role .., rfl, ?_⟩
          rw [eqI]
          exact q
      · refine itB (by rw [decide_eq_false h1]; rfl) ?_
        rw [if_neg h1] at q
        exact ⟨_, rfl, a, C, dx, _, _, rfl, k1, T.cl, T.n_role, kf_role .., _, rfl, z0, C, dz, _, _, rfl, z1, T.cl, T.n_role, kf_role .., _, _, rfl, rfl, q⟩
theorem d_is_new (F : Tx K mg "is_new" ["kinds", "kind"] s_is_new) (T : Txt K mg C aS) : Dn P w K mg base 1 "is_new" ["kinds", "kind"] (spKinds C M.isNew) := by
  have nd := sc_is_new.nd
  refine F.dn sc_is_new (fun vs H Q E h => ?_) (fun f cdv A outer s H vs Q E hr h => ?_)
  · obtain ⟨l, a, as, ks, k, rfl, _⟩ := h
    rfl
  · obtain ⟨l, a, as, ks, k, rfl, hl, hks, hk, q⟩ := h
    have hlen := hks.len
    obtain ⟨dx, nm, ds, as', k1, k2, k3, k4⟩ := hk
    refine ⟨_, (pss_cons (ps_for PassesOwn.never rfl (pi_list (pv 0)) (pg_name (i := 2) nd rfl (Or.inl rfl)) (pss_cons (ps_if ((pw_and (pt_cmpR op_eq (pe_fld (pv 1) rfl) (pe_gi T.c_SIGN) (nomark _)) (pw_and1 (pt_cmpR (op_eqD hr.units) (pe_fld (pv 2) rfl) (pe_fld (pv 1) rfl) (nomark _))))).pt (pss_one (ps_ret pe_bl)) pss_nil) (pss_one (ps_if (pt_cmpR (op_eqD hr.units) (pe_fld (pv 2) rfl) (pe_fld (pv 1) rfl) (nomark _)) (pss_one (ps_ret pe_bl)) pss_nil)))) (pss_one (ps_ret pe_bl))), ?_⟩
    refine ⟨_, rfl, l, rfl, ⟨_, SqL.of hl⟩, for_list (K := K) (a := l) (xs := as.map V.ref) (fun i σ H' => ∃ v : Option V, σ = [some (.ref l), some (.ref a), v] ∧ H' = H ∧ M.isNew (ks.take i) k = true)
      ⟨none, rfl, rfl, rfl⟩ (fun i σ H' _ ⟨_, _, e, _⟩ => by rw [e]; exact SqL.of hl) ?_ ?_⟩
    · rintro i y σ H' hi ⟨v, rfl, rfl, hm⟩
      obtain ⟨b, hb, rfl⟩ := refs_at hi
      obtain ⟨z, hz, dz, nz, dsz, asz, z1, z2, z3, z4⟩ := hks.at hb
      have hnot : M.oneNew k z = false → M.isNew ks k = false := fun e => by
        unfold M.isNew
        rw [List.all_eq_false]
        exact ⟨z, List.mem_of_getElem? hz, by rw [e]; decide⟩
      have hyes : M.oneNew k z = true → M.isNew (ks.take (i + 1)) k = true := fun e => by
        rw [take_snoc hz]
        unfold M.isNew at hm ⊢
        rw [List.all_append, hm, List.all_cons, e]
        rfl
      refine seqI fun NX hNX => ?_
      have rest : ¬ (k.role = 0 ∧ z.name = k.name) → NX [some (.ref l), some (.ref a), some (.ref b)] H' := by
        intro hnn
        refine hNX _ _ ?_
        refine ⟨_, rfl, b, C, dz, _, _, rfl, z1, T.cl, T.n_design, kf_design .., _, rfl, a, C, dx, _, _, rfl, k1, T.cl, T.n_design, kf_design .., dd z.design, dd k.design, dp_ws z3 z4, dp_ws k3 k4, shaped_dd _, shaped_dd _, _, rfl, ?_⟩
        rw [eqv_dd]
        by_cases h3 : z.design = k.design
        · refine itB (decide_eq_true h3) ?_
          show Q (.bl false) _
          rw [← hnot (by unfold M.oneNew; rw [decide_eq_true h3]; simp)]
          exact q
        · refine itN (decide_eq_false h3) ?_
          refine ⟨_, rfl, rfl, hyes ?_⟩
          unfold M.oneNew
          rw [decide_eq_false h3]
          by_cases h4 : k.role = 0
          · rw [decide_eq_false (fun e => hnn ⟨h4, e⟩)]
            simp
          · rw [decide_eq_false h4]
            rfl
      refine ⟨_, rfl, a, C, dx, _, _, rfl, k1, T.cl, T.n_role, kf_role .., rfl, _, rfl, ?_⟩
      rw [eqI]
      by_cases h1 : k.role = 0
      · refine itB (decide_eq_true h1) ?_
        refine ⟨_, rfl, b, C, dz, _, _, rfl, z1, T.cl, T.n_name, kf_name .., _, rfl, a, C, dx, _, _, rfl, k1, T.cl, T.n_name, kf_name .., di z.name, di k.name, dp_sq z2.sq, dp_sq k2.sq, shaped_di _, shaped_di _, _, rfl, ?_⟩
        rw [eqv_di]
        by_cases h2 : z.name = k.name
        · refine itB (decide_eq_true h2) ?_
          show Q (.bl false) _
          rw [← hnot (by unfold M.oneNew; rw [decide_eq_true h1, decide_eq_true h2]; simp)]
          exact q
        · refine itN (decide_eq_false h2) ?_
          exact rest (fun e => h2 e.2)
      · refine itN (decide_eq_false h1) (iteF ?_)
        exact rest (fun e => h1 e.1)
    · rintro σ H' ⟨v, rfl, rfl, hm⟩
      rw [List.length_map, hlen, List.take_length] at hm
      show Q (.bl true) _
      rw [← hm]
      exact q
theorem d_fits (F : Tx K mg "fits" ["kinds", "kind"] s_fits) (T : Txt K mg C aS) (D_in_order : Dn P w K mg base 1 "in_order" ["kinds", "kind"] (spKinds C M.inOrder)) (D_is_new : Dn P w K mg base 1 "is_new" ["kinds", "kind"] (spKinds C M.isNew)) :
    Dn P w K mg base 2 "fits" ["kinds", "kind"] (spKinds C M.fits) := by
  have nd := sc_fits.nd
  refine F.dn sc_fits (fun vs H Q E h => ?_) (fun f cdv A outer s H vs Q E hr h => ?_)
  · obtain ⟨l, a, as, ks, k, rfl, _⟩ := h
    rfl
  · obtain ⟨l, a, as, ks, k, rfl, hl, hks, hk, q⟩ := h
    have hlen := hks.len
    have hk0 := hk
    obtain ⟨dx, nm, ds, as', k1, k2, k3, k4⟩ := hk0
    refine ⟨_, (pss_cons (ps_if ((pw_and (pt_cmpR op_eq (pe_fld (pv 1) rfl) (pe_gi T.c_SIGN) (nomark _)) (pw_and1 (pt_cmpR op_ge (pe_callB call_len_seq (by rfl) T.len PySem.boot_len (pa_cons (pv 0) pa_nil)) (pe_gi T.c_MOST_SIGNS) (nomark _))))).pt (pss_one (ps_ret pe_bl)) pss_nil) (pss_one (ps_ret (pe_and (pe_cd D_in_order hr (by first | decide | omega) (by rfl) (pa_cons (pv 0) (pa_cons (pv 1) pa_nil))) (pe_one (pe_cd D_is_new hr (by first | decide | omega) (by rfl) (pa_cons (pv 0) (pa_cons (pv 1) pa_nil)))))))), ?_⟩
    refine seqI fun NX hNX => ?_
    have rest : ¬ (k.role = 0 ∧ 48 ≤ ks.length) → NX [some (.ref l), some (.ref a)] H := by
      intro hn
      refine hNX _ _ ?_
      unfold M.fits at q
      rw [if_neg hn] at q
      refine ⟨_, rfl, _, rfl, l, a, as, ks, k, rfl, hl, hks, hk, _, rfl, ?_⟩
      cases ho : M.inOrder ks k with
      | true =>
        refine itB rfl ?_
        rw [ho] at q
        exact ⟨_, rfl, _, rfl, l, a, as, ks, k, rfl, hl, hks, hk, q⟩
      | false =>
        refine itN rfl ?_
        rw [ho] at q
        exact q
    refine ⟨_, rfl, a, C, dx, _, _, rfl, k1, T.cl, T.n_role, kf_role .., rfl, _, rfl, ?_⟩
    rw [eqI]
    by_cases h1 : k.role = 0
    · refine itB (decide_eq_true h1) ?_
      refine ⟨_, rfl, l, _, rfl, .inl (SqL.of hl), _, _, rfl, rfl, _, rfl, ?_⟩
      rw [List.length_map]
      by_cases h2 : 48 ≤ ks.length
      · refine itB (decide_eq_true (by omega)) ?_
        unfold M.fits at q
        rw [if_pos ⟨h1, h2⟩] at q
        exact q
      · refine itN (decide_eq_false (by omega)) ?_
        exact rest (fun e => h2 e.2)
    · refine itN (decide_eq_false h1) (iteF ?_)
      exact rest (fun e => h1 e.1)
end
end Fl
set_option Elab.async false
set_option linter.all false
set_option maxRecDepth 100000
namespace Fl
open PySem PySem.Spec PyProof.Rows L2
open PySem.W (Codec)
section
variable {P : Program} {w : World} {K : PySem.W.Frag} {mg : Str → Option Value} {base : Heap} {C aS : Addr}
/-! ### read_kinds -/
theorem d_read_kinds (F : Tx K mg "read_kinds" ["lines"] s_read_kinds) (T : Txt K mg C aS) (D_split_at : Dn P w K mg base 1 "split_at" ["row", "mark"] (spSplit K)) (D_read_kind : Dn P w K mg base 5 "read_kind" ["words"] (spReadKind C))
    (D_fits : Dn P w K mg base 2 "fits" ["kinds", "kind"] (spKinds C M.fits)) : Dn P w K mg base 6 "read_kinds" ["lines"] (spReadKinds C) := by
  have nd := sc_read_kinds.nd
  refine F.dn sc_read_kinds (fun vs H Q E h => ?_) (fun f cdv A outer s H vs Q E hr h => ?_)
  · obtain ⟨l, as, lines, rfl, _⟩ := h
    rfl
  · obtain ⟨l, as, lines, rfl, hl, hw, hn, hm, k⟩ := h
    have hlen := hw.len
    refine ⟨_, (pss_cons (ps_set (i := 1) nd rfl (Or.inl rfl) (pe_lst pa_nil)) (pss_cons (ps_for PassesOwn.never rfl (pi_list (pv 0)) (pg_name (i := 2) nd rfl (Or.inl rfl)) (pss_cons (ps_set (i := 3) nd rfl (Or.inl rfl) (pe_cd D_read_kind hr (by first | decide | omega) (by rfl) (pa_cons (pe_cd D_split_at hr (by first | decide | omega) (by rfl) (pa_cons (pv 2) (pa_cons (pe_gi T.c_BLANK) pa_nil))) pa_nil))) (pss_cons (ps_if ((pw_or (pt_cmp (pc_isN (pv 3))) (pw_or1 (pt_not (pt_val (pe_cd D_fits hr (by first | decide | omega) (by rfl) (pa_cons (pv 1) (pa_cons (pv 3) pa_nil)))))))).pt (pss_one (ps_ret pe_non)) pss_nil) (pss_one (ps_expr (pe_bm PySem.F.plainAttrs_list PySem.F.slot_list_append PySem.F.type_list_append mt_append (pv 1) (pa_cons (pv 3) pa_nil))))))) (pss_cons (ps_if ((pw_or (pt_cmpR op_eq (pe_callB call_len_seq (by rfl) T.len PySem.boot_len (pa_cons (pv 1) pa_nil)) pe_int (nomark _)) (pw_or1 (pt_cmpR op_ne (pe_fld (pe_ix ix_list (pv 1) pe_int (fun _ _ => rfl)) rfl) (pe_gi T.c_SIGN) (nomark _))))).pt (pss_one (ps_ret pe_non)) pss_nil) (pss_one (ps_ret (pv 1)))))), ?_⟩
    refine ⟨Nat.zero_le _, fun lk hlk => ?_⟩
    have s0 : Same H (upd H lk (.lst [])) := Same.upd_new (Same.refl _) hlk
    refine ⟨_, rfl, l, rfl, ⟨_, SqL.of (s0 _ _ hl)⟩, for_list (K := K) (a := l) (xs := as.map V.ref) (fun i σ H' => ∃ (ks : List M.KD) (ps : List Addr) (v2 v3 : Option V), σ = [some (.ref l), some (.ref lk), v2, v3] ∧ Same H H' ∧ H' lk = some (.lst (ps.map V.ref)) ∧
        M.All2 (fun a k => KindF C H' (fun b => b ≠ lk) a k) ps ks ∧ M.readKindsFrom [] lines = M.readKindsFrom ks (lines.drop i) ∧ ps.length ≤ i)
      ⟨[], [], none, none, rfl, s0, upd_same, .nil, rfl, Nat.le_refl _⟩ (fun i σ H' _ ⟨_, _, _, _, _, s1, _⟩ => SqL.of (s1 _ _ hl)) ?_ ?_⟩
    · rintro i y σ H' hi ⟨ks, ps, v2, v3, rfl, s1, e1, hk, er, hp⟩
      obtain ⟨b, hb, rfl⟩ := refs_at hi
      obtain ⟨line, hline, lb⟩ := hw.at hb
      have hir : i < as.length := (List.getElem?_eq_some_iff.mp hb).1
      rw [drop_cons hline] at er
      have er : M.readKindsFrom [] lines = match M.readKind (M.cutI 32 line) with
        | none => none
        | some k => if M.fits ks k = true then M.readKindsFrom (ks ++ [k]) (lines.drop (i + 1)) else none := er
      have fail : ∀ H3 : Hp, Same H H3 → M.readKindsFrom [] lines = none → Q .non H3 := fun H3 s3 e => by
        refine k H3 .non s3 ?_
        have : M.readKinds lines = none := by
          unfold M.readKinds
          rw [e]
        rw [this]
        rfl
      refine ⟨_, rfl, b, 32, line, rfl, (LI.same lb s1).sq, hm line (List.mem_of_getElem? hline), fun H2 pw asw s2 n2 e2 a2 => ?_⟩
      have hfresh : ∀ c, H2 c = none → c ≠ lk := fun c hc q => by
        rw [q, s2 _ _ e1] at hc
        cases hc
      have hmem : ∀ c ∈ asw, c ≠ lk := fun c hc => by
        obtain ⟨_, _, q⟩ := a2.mem (P := True) c hc
        exact fun z => by rw [z, e1] at q; cases q.2.1
      refine ⟨fun c => c ≠ lk, pw, asw, M.cutI 32 line, rfl, e2, M.All2.imp (fun _ _ q => q.2.2) a2, M.cutI_ne _ _, hfresh, hmem, fun H3 v s3 o3 => ?_⟩
      have s13 : Same H H3 := (s1.trans s2).trans s3
      have s23 : Same H' H3 := s2.trans s3
      have hk3 : M.All2 (fun a k => KindF C H3 (fun b => b ≠ lk) a k) ps ks := M.All2.imp (fun _ _ q => q.keep fun b o _ e => s23 b o e) hk
      refine ⟨_, rfl, _, rfl, ?_⟩
      cases hrk : M.readKind (M.cutI 32 line) with
      | none =>
        rw [hrk] at o3 er
        have o3 : v = .non := o3
        subst o3
        refine itB (decide_eq_true rfl) (iteT ?_)
        exact fail H3 s13 er
      | some kd =>
        rw [hrk] at o3 er
        obtain ⟨p, rfl, hkd⟩ := o3
        refine itN (decide_eq_false (fun q => nomatch q)) ?_
        refine ⟨_, rfl, _, rfl, lk, p, ps, ks, kd, rfl, s23 _ _ e1, M.All2.imp (fun _ _ q => q.at) hk3, hkd.at, _, rfl, ?_⟩
        cases hf : M.fits ks kd with
        | false =>
          refine itB rfl ?_
          refine fail H3 s13 ?_
          rw [er]
          show (if M.fits ks kd = true then _ else _) = _
          rw [hf]
          rfl
        | true =>
          refine itN rfl ?_
          refine ⟨_, rfl, .inl ⟨rfl, _, SqL.of (s23 _ _ e1)⟩, _, rfl, lk, _, _, rfl, rfl, s23 _ _ e1, (by rw [List.length_map]; exact line70 (by omega)), ?_⟩
          have up : ∀ (b : Addr) (o : HO), b ≠ lk → H3 b = some o → (upd H3 lk (.lst (ps.map V.ref ++ [V.ref p]))) b = some o := fun b o nb e => by
            rw [upd_ne nb]
            exact e
          refine ⟨ks ++ [kd], ps ++ [p], _, _, rfl, Same.upd_own s13 hlk, ?_, M.All2.snoc (hkd.keep up) (M.All2.imp (fun _ _ q => q.keep up) hk3), ?_, ?_⟩
          · rw [upd_same, List.map_append]
            rfl
          · rw [er]
            show (if M.fits ks kd = true then _ else _) = _
            rw [hf]
            rfl
          · rw [List.length_append, List.length_singleton]
            omega
    · rintro σ H' ⟨ks, ps, v2, v3, rfl, s1, e1, hk, er, hp⟩
      rw [List.length_map, hlen, List.drop_length] at er
      have er : M.readKindsFrom [] lines = some ks := er
      have hkl := hk.len
      refine ⟨_, rfl, lk, _, rfl, .inl (SqL.of e1), rfl, _, rfl, ?_⟩
      rw [List.length_map, eqI]
      cases hk with
      | nil =>
        refine itB (decide_eq_true rfl) (iteT ?_)
        refine k H' .non s1 ?_
        have : M.readKinds lines = none := by
          unfold M.readKinds
          rw [er]
        rw [this]
        rfl
      | @cons p0 k0 ps ks h0 t =>
        refine itN (decide_eq_false (by simp only [List.length_cons]; omega)) ?_
        obtain ⟨dx, nm, ds, as', g1, g2⟩ := h0.at
        refine ⟨_, rfl, lk, _, _, _, rfl, rfl, SqL.of e1, at_of (j := 0) rfl rfl, p0, C, dx, _, _, rfl, g1, T.cl, T.n_role, kf_role .., rfl, _, rfl, ?_⟩
        rw [eqI]
        have ek : M.readKinds lines = if k0.role = 0 then some (k0 :: ks) else none := by
          unfold M.readKinds
          rw [er]
        rw [ek] at k
        by_cases h1 : k0.role = 0
        · refine itN (by rw [decide_eq_true h1]; rfl) ?_
          rw [if_pos h1] at k
          refine ⟨_, rfl, k H' (.ref lk) s1 ⟨lk, p0 :: ps, rfl, e1, .cons h0.at (M.All2.imp (fun _ _ q => q.at) t)⟩⟩
        · refine itB (by rw [decide_eq_false h1]; rfl) ?_
          rw [if_neg h1] at k
          exact k H' .non s1 rfl
/-! ### read_locker -/
theorem all2_snoc {α β : Type} {R : α → β → Prop} {x : α} {y : β} : ∀ {as : List α} {bs : List β}, M.All2 R (as ++ [x]) (bs ++ [y]) → M.All2 R as bs ∧ R x y
  | [], [], .cons r .nil => ⟨.nil, r⟩
  | [], _ :: [], .cons _ t => nomatch t
  | [], _ :: _ :: _, .cons _ t => nomatch t
  | _ :: [], [], .cons _ t => nomatch t
  | _ :: _ :: _, [], .cons _ t => nomatch t
  | _ :: as, _ :: bs, .cons r t => ⟨.cons r (all2_snoc (as := as) (bs := bs) t).1, (all2_snoc (as := as) (bs := bs) t).2⟩
theorem last_snoc {α : Type} (l : List α) (x : α) : (l ++ [x])[(l ++ [x]).length - 1]? = some x := by
  rw [List.length_append, List.length_singleton, Nat.add_sub_cancel, List.getElem?_append_right (Nat.le_refl _), Nat.sub_self]
  rfl
theorem d_read_locker (F : Tx K mg "read_locker" ["t"] s_read_locker) (T : Txt K mg C aS) (D_split_at : Dn P w K mg base 1 "split_at" ["row", "mark"] (spSplit K)) (D_is_locker_line : Dn P w K mg base 4 "is_locker_line" ["words"] (spWords M.lockerLine))
    (D_read_kinds : Dn P w K mg base 6 "read_kinds" ["lines"] (spReadKinds C)) (D_is_too_long : Dn P w K mg base 1 "is_too_long" ["t"] (spLong K)) : Dn P w K mg base 7 "read_locker" ["t"] (spReadT K C) := by
  have nd := sc_read_locker.nd
  refine F.dn sc_read_locker (fun vs H Q E h => ?_) (fun f cdv A outer s H vs Q E hr h => ?_)
  · obtain ⟨a, t, rfl, _⟩ := h
    rfl
  · obtain ⟨a, t, rfl, hS, k⟩ := h
    unfold Sh.readT at k
    refine ⟨_, (pss_cons (ps_if (pt_val (pe_cd D_is_too_long hr (by first | decide | omega) (by rfl) (pa_cons (pv 0) pa_nil))) (pss_one (ps_ret pe_non)) pss_nil) (pss_cons (ps_set (i := 1) nd rfl (Or.inl rfl) (pe_cd D_split_at hr (by first | decide | omega) (by rfl) (pa_cons (pv 0) (pa_cons (pe_gi T.c_LINE_END) pa_nil)))) (pss_cons (ps_if ((pw_or (pt_cmpR op_gt (pe_callB call_len_seq (by rfl) T.len PySem.boot_len (pa_cons (pe_bm0 PySem.F.plainAttrs_list PySem.F.slot_list_pop PySem.F.type_list_pop mt_pop (pv 1)) pa_nil)) pe_int (nomark _)) (pw_or1 (pt_cmpR op_eq (pe_callB call_len_seq (by rfl) T.len PySem.boot_len (pa_cons (pv 1) pa_nil)) pe_int (nomark _))))).pt (pss_one (ps_ret pe_non)) pss_nil) (pss_cons (ps_if (pt_not (pt_val (pe_cd D_is_locker_line hr (by first | decide | omega) (by rfl) (pa_cons (pe_cd D_split_at hr (by first | decide | omega) (by rfl) (pa_cons (pe_ix ix_list (pv 1) pe_int (fun _ _ => rfl)) (pa_cons (pe_gi T.c_BLANK) pa_nil))) pa_nil)))) (pss_one (ps_ret pe_non)) pss_nil) (pss_one (ps_ret (pe_cd D_read_kinds hr (by first | decide | omega) (by rfl) (pa_cons (pe_slice sl_list (pv 1) (po_some pe_int) po_none) pa_nil)))))))), ?_⟩
    refine ⟨_, rfl, a, t, rfl, hS, _, rfl, ?_⟩
    by_cases hl : 65536 < t.length
    · refine itB (decide_eq_true hl) ?_
      rw [if_pos hl] at k
      exact k H .non (Same.refl _) rfl
    refine itN (decide_eq_false hl) ?_
    rw [if_neg hl] at k
    refine ⟨_, rfl, a, 10, t, rfl, hS, by omega, fun H1 p as s1 n1 e1 a1 => ?_⟩
    have hlen := a1.len
    have hne := M.cutI_ne 10 t
    have hcl := M.cut_len 10 t
    have hcw := M.cut_word 10 t
    have hap : as ≠ [] := fun q => by rw [q] at hlen; exact hne (List.eq_nil_of_length_eq_zero hlen.symm)
    -- the last piece
    obtain ⟨ini, z, rfl⟩ : ∃ ini z, as = ini ++ [z] := ⟨as.dropLast, as.getLast hap, (List.dropLast_concat_getLast hap).symm⟩
    obtain ⟨ls, lz, hcut⟩ : ∃ ls lz, M.cutI 10 t = ls ++ [lz] := ⟨(M.cutI 10 t).dropLast, (M.cutI 10 t).getLast hne, (List.dropLast_concat_getLast hne).symm⟩
    rw [hcut] at a1 hcl hcw
    have ek : M.readLocker t = if lz = [] then M.readLines ls else none := by
      unfold M.readLocker
      rw [hcut, List.getLast?_concat, List.dropLast_concat]
      by_cases q : lz = []
      · rw [if_pos q, if_pos (by rw [q])]
      · rw [if_neg q, if_neg (fun y => q (Option.some.inj y))]
    rw [ek] at k
    obtain ⟨ai, az⟩ := all2_snoc a1
    refine ⟨_, rfl, .inl ⟨rfl, _, SqL.of e1⟩, p, _, _, rfl, rfl, e1, (by rw [List.map_append]; exact last_snoc _ _), ?_⟩
    have edl : ((ini ++ [z]).map V.ref).dropLast = ini.map V.ref := by
      rw [List.map_append]
      exact List.dropLast_concat
    rw [edl]
    have s2 : Same H (upd H1 p (.lst (ini.map V.ref))) := Same.upd_own s1 n1
    have ws2 : WS (upd H1 p (.lst (ini.map V.ref))) ini ls := M.All2.imp (fun b u q => by show (upd H1 p _) b = _; rw [upd_ne q.1]; exact q.2.2) ai
    have z2 : LI (upd H1 p (.lst (ini.map V.ref))) z lz := by show (upd H1 p _) z = _; rw [upd_ne az.1]; exact az.2.2
    refine ⟨z, _, rfl, .inl z2.sq, _, _, rfl, rfl, _, rfl, ?_⟩
    rw [ints_len]
    by_cases h1 : lz = []
    · refine itN (decide_eq_false (by rw [h1]; decide)) ?_
      rw [if_pos h1] at k
      refine ⟨_, rfl, p, _, rfl, .inl (SqL.of upd_same), rfl, _, rfl, ?_⟩
      rw [List.length_map, eqI]
      cases ws2 with
      | nil =>
        refine itB (decide_eq_true rfl) ?_
        exact k _ .non s2 rfl
      | @cons b0 w0 ini ls g0 gs =>
        refine itN (decide_eq_false (by simp only [List.length_cons]; omega)) ?_
        have hl0 : w0.length ≤ 69000 := by
          have := hcw w0 (by simp)
          omega
        refine ⟨_, rfl, p, _, _, _, rfl, rfl, SqL.of upd_same, at_of (j := 0) rfl rfl, b0, 32, w0, rfl, LI.sq g0, hl0, fun H3 pw asw s3 n3 e3 a3 => ?_⟩
        refine ⟨pw, asw, M.cutI 32 w0, rfl, e3, M.All2.imp (fun _ _ q => q.2.2) a3, fun H4 s4 => ?_⟩
        have s24 := s3.trans s4
        refine ⟨_, rfl, ?_⟩
        have er : M.readLines (w0 :: ls) = if M.lockerLine (M.cutI 32 w0) = true then M.readKinds ls else none := rfl
        rw [er] at k
        cases hll : M.lockerLine (M.cutI 32 w0) with
        | false =>
          refine itB rfl ?_
          rw [hll] at k
          exact k _ .non (s2.trans s24) rfl
        | true =>
          refine itN rfl ?_
          rw [hll, if_pos rfl] at k
          refine ⟨_, rfl, _, rfl, p, _, rfl, SqL.of (s24 _ _ upd_same), fun q hq => ?_⟩
          have s5 : Same H4 (upd H4 q (.lst (cutV ((b0 :: ini).map V.ref) (some 1) none))) := Same.upd_new (Same.refl _) hq
          refine ⟨q, ini, ls, rfl, ?_, WS.same gs (s24.trans s5), ?_, fun u hu => ?_, fun H' v s' o' => k H' v ((s2.trans (s24.trans s5)).trans s') o'⟩
          · rw [upd_same, cut1]
            rfl
          · rw [List.length_append, List.length_cons] at hcl
            omega
          · have := hcw u (by simp [hu])
            omega
    · refine itB (decide_eq_true ?_) (iteT ?_)
      · have : lz.length ≠ 0 := fun e => h1 (List.eq_nil_of_length_eq_zero e)
        omega
      · rw [if_neg h1] at k
        exact k _ .non s2 rfl
/-! ### is_too_long -/
theorem d_too_long (F : Tx K mg "is_too_long" ["t"] s_is_too_long) (T : Txt K mg C aS) : Dn P w K mg base 1 "is_too_long" ["t"] (spLong K) := by
  have nd := sc_is_too_long.nd
  refine F.dn sc_is_too_long (fun vs H Q E h => ?_) (fun f cdv A outer s H vs Q E hr h => ?_)
  · obtain ⟨a, t, rfl, _⟩ := h
    rfl
  · obtain ⟨a, t, rfl, hS, k⟩ := h
    refine ⟨_, (pss_one (ps_ret (pe_cmpR op_gt (pe_callB call_len_seq (by rfl) T.len PySem.boot_len (pa_cons (pv 0) pa_nil)) (pe_gi T.c_MOST_BYTES) (nomark _)))), ?_⟩
    refine ⟨_, rfl, a, _, rfl, .inl hS, _, _, rfl, rfl, ?_⟩
    rw [ints_len]
    have e : decide ((65536 : Int) < (t.length : Nat)) = decide (65536 < t.length) := by
      rw [decide_eq_decide]
      omega
    show Q (V.bl (decide ((65536 : Int) < (t.length : Nat)))) H
    rw [e]
    exact k
/-! ### text_refusal -/
theorem d_refuse (F : Tx K mg "text_refusal" ["t"] s_text_refusal) (T : Txt K mg C aS) (D_is_too_long : Dn P w K mg base 1 "is_too_long" ["t"] (spLong K)) : Dn P w K mg base 2 "text_refusal" ["t"] (spRefuse K) := by
  have nd := sc_text_refusal.nd
  refine F.dn sc_text_refusal (fun vs H Q E h => ?_) (fun f cdv A outer s H vs Q E hr h => ?_)
  · obtain ⟨a, t, rfl, _⟩ := h
    rfl
  · obtain ⟨a, t, rfl, hS, k⟩ := h
    refine ⟨_, (pss_cons (ps_if (pt_val (pe_cd D_is_too_long hr (by first | decide | omega) (by rfl) (pa_cons (pv 0) pa_nil))) (pss_one (ps_ret (pe_lst (pa_cons (pe_gi T.c_TEXT_TOO_LONG) pa_nil)))) pss_nil) (pss_one (ps_ret (pe_lst (pa_cons (pe_gi T.c_NO_LOCKER) pa_nil))))), ?_⟩
    refine ⟨_, rfl, a, t, rfl, hS, _, rfl, ?_⟩
    by_cases hl : 65536 < t.length
    · refine itB (decide_eq_true hl) ?_
      rw [if_pos hl] at k
      exact ⟨by show 1 ≤ sizeLine; decide, fun p hp => k _ p (Same.upd_new (Same.refl _) hp) upd_same⟩
    · refine itN (decide_eq_false hl) ?_
      rw [if_neg hl] at k
      exact ⟨by show 1 ≤ sizeLine; decide, fun p hp => k _ p (Same.upd_new (Same.refl _) hp) upd_same⟩
end
end Fl
set_option Elab.async false
set_option linter.all false
set_option maxRecDepth 100000
namespace Fl
open PySem PySem.Spec PyProof.Rows L2
open PySem.W (Codec)
section
variable {P : Program} {w : World} {K : PySem.W.Frag} {mg : Str → Option Value} {base : Heap} {C aS : Addr}
/-! ### unknown_place -/
theorem findIdx_at {α : Type} {p : α → Bool} : ∀ {l : List α} {i : Nat} {x : α}, l[i]? = some x → p x = true → (∀ j y, j < i → l[j]? = some y → p y = false) → l.findIdx? p = some i
  | [], i, x, h, _, _ => by simp at h
  | a :: l, 0, x, h, hp, _ => by
    have e : a = x := Option.some.inj h
    subst e
    rw [List.findIdx?_cons, hp]
    rfl
  | a :: l, i + 1, x, h, hp, hn => by
    have h0 := hn 0 a (by omega) rfl
    rw [List.findIdx?_cons, h0, findIdx_at (l := l) (i := i) (x := x) h hp fun j y hj e => hn (j + 1) y (by omega) e]
    rfl
theorem findIdx_no {α : Type} {p : α → Bool} {l : List α} (hn : ∀ j y, j < l.length → l[j]? = some y → p y = false) : l.findIdx? p = none := by
  rw [List.findIdx?_eq_none_iff]
  intro x hx
  obtain ⟨j, hj, e⟩ := List.mem_iff_getElem.mp hx
  exact hn j x hj (by rw [← e]; exact List.getElem?_eq_getElem hj)
theorem d_unknown (F : Tx K mg "unknown_place" ["kinds", "h"] s_unknown_place) (T : Txt K mg C aS) : Dn P w K mg base 1 "unknown_place" ["kinds", "h"] (spPlace K C unkAt) := by
  have nd := sc_unknown_place.nd
  refine F.dn sc_unknown_place (fun vs H Q E h => ?_) (fun f cdv A outer s H vs Q E hr h => ?_)
  · obtain ⟨l, a, as, ks, h, rfl, _⟩ := h
    rfl
  · obtain ⟨l, a, as, ks, h, rfl, hl, hks, hS, hh, hz, k⟩ := h
    have hlen := hks.len
    refine ⟨_, (pss_cons (ps_for PassesOwn.never rfl (pi_enum rfl T.enumerate (pa_cons (pv 1) pa_nil)) (pg_tup rfl (pgs_cons (pg_name (i := 2) nd rfl (Or.inl rfl)) (pgs_cons (pg_name (i := 3) nd rfl (Or.inl rfl)) pgs_nil))) (pss_one (ps_if (pt_cmpR op_ge (pv 3) (pe_callB call_len_seq (by rfl) T.len PySem.boot_len (pa_cons (pv 0) pa_nil)) (nomark _)) (pss_one (ps_ret (pv 2))) pss_nil))) (pss_one (ps_ret (pe_un un_neg pe_int)))), ?_⟩
    refine ⟨_, rfl, a, _, rfl, hS, for_enum (K := K) (a := a) (xs := zs h) (fun i σ H' => ∃ v2 v3 : Option V, σ = [some (.ref l), some (.ref a), v2, v3] ∧ Same H H' ∧ ∀ j y, j < i → h[j]? = some y → decide ((ks.length : Int) ≤ y) = false)
      ⟨none, none, rfl, Same.refl _, fun j y hj => absurd hj (Nat.not_lt_zero _)⟩ (fun i σ H' _ ⟨_, _, _, s1, _⟩ => s1.seq hS) ?_ ?_⟩
    · rintro i y σ H' TT hi ⟨v2, v3, rfl, s1, hn⟩ hT
      obtain ⟨z, hzi, rfl⟩ := ints_at hi
      have s2 : Same H (upd H' TT (.tup [.int (i : Nat), .int z])) := Same.upd_new s1 hT
      refine ⟨TT, _, rfl, SqT.of upd_same, rfl, _, _, rfl, _, _, rfl, rfl, ?_⟩
      refine ⟨_, rfl, _, rfl, l, _, rfl, .inl (SqL.of (s2 _ _ hl)), _, _, rfl, rfl, _, rfl, ?_⟩
      rw [List.length_map, hlen]
      by_cases h1 : (ks.length : Int) ≤ z
      · refine itB (decide_eq_true h1) ?_
        have e : unkAt ks h = some i := findIdx_at hzi (decide_eq_true h1) hn
        refine ⟨_, rfl, ?_⟩
        have kk := k _ s2
        rw [e] at kk
        exact kk
      · refine itN (decide_eq_false h1) ?_
        refine ⟨_, _, rfl, s2, fun j y hj e => ?_⟩
        by_cases hji : j = i
        · subst hji
          rw [hzi] at e
          have e : z = y := Option.some.inj e
          rw [← e]
          exact decide_eq_false h1
        · exact hn j y (by omega) e
    · rintro σ H' ⟨v2, v3, rfl, s1, hn⟩
      rw [ints_len] at hn
      have e : unkAt ks h = none := findIdx_no hn
      refine ⟨_, rfl, ?_⟩
      have kk := k _ s1
      rw [e] at kk
      exact kk
/-! ### meant_row -/
theorem meant_cons {ks : List M.KD} {row r : List Int} {z : Int} {kd : M.KD} (h : ks[z.toNat]? = some kd) : M.meantFrom ks row (z :: r) = if kd.role = 0 then M.meantFrom ks (row ++ [z]) r
      else if kd.role = 1 ∧ kd.back ≤ row.length then M.meantFrom ks (row ++ [row.getD (kd.back - 1).toNat 0]) r else row := by
  show (match ks[z.toNat]? with
    | none => row
    | some k => _) = _
  rw [h]
theorem d_meant (F : Tx K mg "meant_row" ["kinds", "h"] s_meant_row) (T : Txt K mg C aS) : Dn P w K mg base 1 "meant_row" ["kinds", "h"] (spMeant K C) := by
  have nd := sc_meant_row.nd
  refine F.dn sc_meant_row (fun vs H Q E h => ?_) (fun f cdv A outer s H vs Q E hr h => ?_)
  · obtain ⟨l, a, as, ks, h, rfl, _⟩ := h
    rfl
  · obtain ⟨l, a, as, ks, h, rfl, hl, hks, hS, hh, hz, hok, k⟩ := h
    have hlen := hks.len
    refine ⟨_, (pss_cons (ps_set (i := 2) nd rfl (Or.inl rfl) (pe_lst pa_nil)) (pss_cons (ps_for PassesOwn.never rfl (pi_list (pv 1)) (pg_name (i := 3) nd rfl (Or.inl rfl)) (pss_cons (ps_set (i := 4) nd rfl (Or.inl rfl) (pe_ix ix_list (pv 0) (pv 3) (fun _ _ => rfl))) (pss_one (ps_if (pt_cmpR op_eq (pe_fld (pv 4) rfl) (pe_gi T.c_SIGN) (nomark _)) (pss_one (ps_expr (pe_bm PySem.F.plainAttrs_list PySem.F.slot_list_append PySem.F.type_list_append mt_append (pv 2) (pa_cons (pv 3) pa_nil)))) (pss_one (ps_if ((pw_and (pt_cmpR op_eq (pe_fld (pv 4) rfl) (pe_gi T.c_SAME) (nomark _)) (pw_and1 (pt_cmpR op_le (pe_fld (pv 4) rfl) (pe_callB call_len_seq (by rfl) T.len PySem.boot_len (pa_cons (pv 2) pa_nil)) (nomark _))))).pt (pss_one (ps_expr (pe_bm PySem.F.plainAttrs_list PySem.F.slot_list_append PySem.F.type_list_append mt_append (pv 2) (pa_cons (pe_ix ix_list (pv 2) (pe_op op_sub (pe_fld (pv 4) rfl) pe_int) (fun _ _ => rfl)) pa_nil)))) (pss_one (ps_ret (pv 2))))))))) (pss_one (ps_ret (pv 2))))), ?_⟩
    refine ⟨Nat.zero_le _, fun lr hlr => ?_⟩
    have s0 : Same H (upd H lr (.lst [])) := Same.upd_new (Same.refl _) hlr
    refine ⟨_, rfl, a, rfl, ⟨_, s0.seq hS⟩, for_list (K := K) (a := a) (xs := zs h) (fun i σ H' => ∃ (row : List Int) (v3 v4 : Option V), σ = [some (.ref l), some (.ref a), some (.ref lr), v3, v4] ∧ Same H H' ∧ LI H' lr row ∧ M.meantFrom ks [] h = M.meantFrom ks row (h.drop i) ∧ row.length ≤ i)
      ⟨[], none, none, rfl, s0, upd_same, rfl, Nat.le_refl _⟩ (fun i σ H' _ ⟨_, _, _, _, s1, _⟩ => s1.seq hS) ?_ ?_⟩
    · rintro i y σ H' hi ⟨row, v3, v4, rfl, s1, e1, er, hrl⟩
      obtain ⟨z, hzi, rfl⟩ := ints_at hi
      have hih : i < h.length := (List.getElem?_eq_some_iff.mp hzi).1
      obtain ⟨z0, z1⟩ := hz z (List.mem_of_getElem? hzi)
      have hzn : z.toNat < ks.length := by omega
      have hkz : ks[z.toNat]? = some ks[z.toNat] := List.getElem?_eq_getElem hzn
      obtain ⟨b, hb, hkb⟩ := hks.at' hkz
      have kok := hok _ (List.mem_of_getElem? hkz)
      generalize ks[z.toNat] = kd at hkz hkb kok
      rw [drop_cons hzi, meant_cons hkz] at er
      have hkb' := hkb.same s1
      obtain ⟨dx, nm, ds, as', k1, k2, k3, k4⟩ := hkb'
      have hat : atI (as.map V.ref) z = some (.ref b) := at_of (j := z.toNat) (by omega) (by rw [List.getElem?_map, hb]; rfl)
      have app : ∀ (x : Int), (upd H' lr (.lst (zs row ++ [V.int x]))) lr = some (.lst (zs (row ++ [x]))) := fun x => by
        rw [upd_same, zs, zs, List.map_append]
        rfl
      refine ⟨_, rfl, _, rfl, l, _, _, _, rfl, rfl, SqL.of (s1 _ _ hl), hat, ?_⟩
      refine ⟨_, rfl, b, C, dx, _, _, rfl, k1, T.cl, T.n_role, kf_role .., rfl, _, rfl, ?_⟩
      rw [eqI]
      by_cases h0 : kd.role = 0
      · refine itB (decide_eq_true h0) ?_
        rw [if_pos h0] at er
        refine ⟨_, rfl, .inl ⟨rfl, _, SqL.of e1⟩, _, rfl, lr, _, _, rfl, rfl, e1, (by rw [ints_len]; exact line70 (by omega)), ?_⟩
        exact ⟨row ++ [z], _, _, rfl, Same.upd_own s1 hlr, app z, er, by rw [List.length_append, List.length_singleton]; omega⟩
      · refine itN (decide_eq_false h0) ?_
        rw [if_neg h0] at er
        have last : ¬ (kd.role = 1 ∧ kd.back ≤ (row.length : Int)) → Q (.ref lr) H' := fun hn => by
          rw [if_neg hn] at er
          rw [← er] at e1
          exact k H' lr s1 hlr e1
        refine ⟨_, rfl, b, C, dx, _, _, rfl, k1, T.cl, T.n_role, kf_role .., rfl, _, rfl, ?_⟩
        rw [eqI]
        by_cases h1 : kd.role = 1
        · refine itB (decide_eq_true h1) ?_
          refine ⟨_, rfl, b, C, dx, _, _, rfl, k1, T.cl, T.n_back, kf_back .., _, rfl, lr, _, rfl, .inl (SqL.of e1), _, _, rfl, rfl, _, rfl, ?_⟩
          rw [ints_len]
          by_cases h2 : kd.back ≤ (row.length : Int)
          · refine itB (decide_eq_true h2) ?_
            rw [if_pos ⟨h1, h2⟩] at er
            have kb := kok h1
            have hj : (kd.back - 1).toNat < row.length := by omega
            have hx : (zs row)[(kd.back - 1).toNat]? = some (V.int (row.getD (kd.back - 1).toNat 0)) := by
              rw [List.getElem?_map, List.getD_eq_getElem?_getD, List.getElem?_eq_getElem hj]
              rfl
            refine ⟨_, rfl, .inl ⟨rfl, _, SqL.of e1⟩, _, rfl, _, rfl, b, C, dx, _, _, rfl, k1, T.cl, T.n_back, kf_back .., _, _, rfl, rfl, lr, _, _, _, rfl, rfl, SqL.of e1, at_of (j := (kd.back - 1).toNat) (by omega) hx, lr, _, _, rfl, rfl, e1, (by rw [ints_len]; exact line70 (by omega)), ?_⟩
            exact ⟨row ++ [_], _, _, rfl, Same.upd_own s1 hlr, app _, er, by rw [List.length_append, List.length_singleton]; omega⟩
          · refine itN (decide_eq_false h2) ?_
            exact ⟨_, rfl, last (fun q => h2 q.2)⟩
        · refine itN (decide_eq_false h1) (iteF ?_)
          exact ⟨_, rfl, last (fun q => h1 q.1)⟩
    · rintro σ H' ⟨row, v3, v4, rfl, s1, e1, er, hrl⟩
      rw [ints_len, List.drop_length] at er
      have er : M.meantFrom ks [] h = row := er
      rw [← er] at e1
      exact ⟨_, rfl, k H' lr s1 hlr e1⟩
/-! ### lacking_place -/
theorem d_lacking (F : Tx K mg "lacking_place" ["kinds", "h"] s_lacking_place) (T : Txt K mg C aS) : Dn P w K mg base 1 "lacking_place" ["kinds", "h"] (spLack K C) := by
  have nd := sc_lacking_place.nd
  refine F.dn sc_lacking_place (fun vs H Q E h => ?_) (fun f cdv A outer s H vs Q E hr h => ?_)
  · obtain ⟨l, a, as, ks, h, rfl, _⟩ := h
    rfl
  · obtain ⟨l, a, as, ks, h, rfl, hl, hks, hS, hh, hz, k⟩ := h
    have hlen := hks.len
    refine ⟨_, (pss_cons (ps_for PassesOwn.never rfl (pi_enum rfl T.enumerate (pa_cons (pv 1) pa_nil)) (pg_tup rfl (pgs_cons (pg_name (i := 2) nd rfl (Or.inl rfl)) (pgs_cons (pg_name (i := 3) nd rfl (Or.inl rfl)) pgs_nil))) (pss_one (ps_if (pt_cmpR op_gt (pe_bm PySem.F.plainAttrs_list PySem.F.slot_list_count PySem.F.type_list_count mt_count (pe_slice sl_list (pv 1) po_none (po_some (pe_op op_add (pv 2) pe_int))) (pa_cons (pv 3) pa_nil)) (pe_fld (pe_ix ix_list (pv 0) (pv 3) (fun _ _ => rfl)) rfl) (nomark _)) (pss_one (ps_ret (pv 2))) pss_nil))) (pss_one (ps_ret (pe_un un_neg pe_int)))), ?_⟩
    refine ⟨_, rfl, a, _, rfl, hS, for_enum (K := K) (a := a) (xs := zs h) (fun i σ H' => ∃ v2 v3 : Option V, σ = [some (.ref l), some (.ref a), v2, v3] ∧ Same H H' ∧ ∀ j, j < i → M.lackAt ks h j = false)
      ⟨none, none, rfl, Same.refl _, fun j hj => absurd hj (Nat.not_lt_zero _)⟩ (fun i σ H' _ ⟨_, _, _, s1, _⟩ => s1.seq hS) ?_ ?_⟩
    · rintro i y σ H' TT hi ⟨v2, v3, rfl, s1, hn⟩ hT
      obtain ⟨z, hzi, rfl⟩ := ints_at hi
      have hih : i < h.length := (List.getElem?_eq_some_iff.mp hzi).1
      obtain ⟨z0, z1⟩ := hz z (List.mem_of_getElem? hzi)
      have hzn : z.toNat < ks.length := by omega
      have hkz : ks[z.toNat]? = some ks[z.toNat] := List.getElem?_eq_getElem hzn
      obtain ⟨b, hb, hkb⟩ := hks.at' hkz
      generalize ks[z.toNat] = kd at hkz hkb
      have s2 : Same H (upd H' TT (.tup [.int (i : Nat), .int z])) := Same.upd_new s1 hT
      have hlack : M.lackAt ks h i = decide (kd.copies < ((h.take (i + 1)).count z : Nat)) := by
        unfold M.lackAt
        rw [hzi]
        show (match ks[z.toNat]? with
          | none => false
          | some k => _) = _
        rw [hkz]
      have hat : atI (as.map V.ref) z = some (.ref b) := at_of (j := z.toNat) (by omega) (by rw [List.getElem?_map, hb]; rfl)
      refine ⟨TT, _, rfl, SqT.of upd_same, rfl, _, _, rfl, _, _, rfl, rfl, ?_⟩
      refine ⟨_, rfl, _, rfl, _, _, rfl, rfl, _, rfl, a, _, rfl, s2.seq hS, fun q hq => ?_⟩
      have ecut : cutV (zs h) none (some ((i : Int) + 1)) = zs (h.take (i + 1)) := by
        have e1 : (i : Int) + 1 = ((i + 1 : Nat) : Int) := by omega
        rw [e1, cut_to, zs, zs, List.map_take]
      have s3 : Same H (upd (upd H' TT (.tup [.int (i : Nat), .int z])) q (.lst (cutV (zs h) none (some ((i : Int) + 1))))) := Same.upd_new s2 hq
      rw [ecut] at s3
      obtain ⟨dx, nm, ds, as', k1, k2, k3, k4⟩ := hkb.same s3
      show tyV _ _ _ (upd (upd H' TT (.tup [.int (i : Nat), .int z])) q (.lst (cutV (zs h) none (some ((i : Int) + 1))))) ∧ _
      rw [ecut]
      refine ⟨.inl ⟨rfl, _, SqL.of upd_same⟩, _, rfl, q, _, _, rfl, rfl, SqL.of upd_same, rfl, flat_ints _, _, rfl, _, rfl, l, _, _, _, rfl, rfl, SqL.of (s3 _ _ hl), hat, b, C, dx, _, _, rfl, k1, T.cl, T.n_copies, kf_copies .., _, _, rfl, rfl, _, rfl, ?_⟩
      rw [count_ints, ← hlack]
      cases hlk : M.lackAt ks h i with
      | true =>
        refine itB rfl ?_
        have e : M.lackingAt ks h = some i := by
          unfold M.lackingAt
          rw [List.find?_range_eq_some]
          exact ⟨hlk, List.mem_range.mpr hih, fun j hj => by rw [hn j hj]; rfl⟩
        refine ⟨_, rfl, ?_⟩
        have kk := k _ s3
        rw [e] at kk
        exact kk
      | false =>
        refine itN rfl ?_
        refine ⟨_, _, rfl, s3, fun j hj => ?_⟩
        by_cases hji : j = i
        · rw [hji]; exact hlk
        · exact hn j (by omega)
    · rintro σ H' ⟨v2, v3, rfl, s1, hn⟩
      rw [ints_len] at hn
      have e : M.lackingAt ks h = none := by
        unfold M.lackingAt
        rw [List.find?_range_eq_none]
        exact fun j hj => by rw [hn j hj]; rfl
      refine ⟨_, rfl, ?_⟩
      have kk := k _ s1
      rw [e] at kk
      exact kk
/-! ### means_in, means -/
theorem meant_len (ks : List M.KD) : ∀ (h row : List Int), (M.meantFrom ks row h).length ≤ row.length + h.length
  | [], row => Nat.le_refl _
  | z :: h, row => by
    have i1 := meant_len ks h (row ++ [z])
    unfold M.meantFrom
    split
    · simp only [List.length_cons]; omega
    · rename_i kd e
      have i2 := meant_len ks h (row ++ [row.getD (kd.back - 1).toNat 0])
      rw [List.length_append, List.length_singleton] at i1 i2
      split
      · simp only [List.length_cons]; omega
      · split
        · simp only [List.length_cons]; omega
        · simp only [List.length_cons]; omega
theorem kok_made {role back : Int} {name : List Int} {rest : List (List Int)} {k : M.KD} (h : M.madeKind role name back rest = some k) : k.role = role ∧ k.back = back := by
  unfold M.madeKind at h
  split at h
  · split at h
    · cases h
    · have e := Option.some.inj h
      subst e
      exact ⟨rfl, rfl⟩
  · cases h
theorem kok_read {ws : List (List Int)} {k : M.KD} (h : M.readKind ws = some k) : Kok k := by
  unfold M.readKind at h
  intro hr
  split at h
  · cases h
  · split at h
    · have := kok_made h; omega
    · split at h
      · cases h
      · split at h
        · have := kok_made h; omega
        · split at h
          · rename_i q
            have := kok_made h
            omega
          · cases h
theorem kok_from : ∀ {lines : List (List Int)} {ks0 ks : List M.KD}, M.readKindsFrom ks0 lines = some ks → (∀ k ∈ ks0, Kok k) → ∀ k ∈ ks, Kok k
  | [], ks0, ks, h, h0 => by
    have e : ks0 = ks := Option.some.inj h
    rw [← e]
    exact h0
  | l :: r, ks0, ks, h, h0 => by
    have h : (match M.readKind (M.cutI 32 l) with
      | none => none
      | some k => if M.fits ks0 k = true then M.readKindsFrom (ks0 ++ [k]) r else none) = some ks := h
    cases hr : M.readKind (M.cutI 32 l) with
    | none => rw [hr] at h; cases h
    | some k =>
      rw [hr] at h
      have h : (if M.fits ks0 k = true then M.readKindsFrom (ks0 ++ [k]) r else none) = some ks := h
      split at h
      · refine kok_from h fun z hz => ?_
        rcases List.mem_append.mp hz with q | q
        · exact h0 z q
        · rw [List.mem_singleton.mp q]; exact kok_read hr
      · cases h
theorem kok_kinds {lines : List (List Int)} {ks : List M.KD} (h : M.readKinds lines = some ks) : ∀ k ∈ ks, Kok k := by
  unfold M.readKinds at h
  split at h
  · cases h
  · cases h
  · rename_i k r e
    split at h
    · have e2 := Option.some.inj h
      rw [← e2]
      exact kok_from e (fun z hz => by cases hz)
    · cases h
theorem kok_of {t : List Int} {ks : List M.KD} (h : M.readLocker t = some ks) : ∀ k ∈ ks, Kok k := by
  unfold M.readLocker at h
  split at h
  · unfold M.readLines at h
    split at h
    · cases h
    · split at h
      · exact kok_kinds h
      · cases h
  · cases h
theorem d_means_in (F : Tx K mg "means_in" ["kinds", "h"] s_means_in) (T : Txt K mg C aS) (D_unknown_place : Dn P w K mg base 1 "unknown_place" ["kinds", "h"] (spPlace K C unkAt)) (D_meant_row : Dn P w K mg base 1 "meant_row" ["kinds", "h"] (spMeant K C))
    (D_lacking_place : Dn P w K mg base 1 "lacking_place" ["kinds", "h"] (spLack K C)) : Dn P w K mg base 2 "means_in" ["kinds", "h"] (spMeansIn K C) := by
  have nd := sc_means_in.nd
  refine F.dn sc_means_in (fun vs H Q E h => ?_) (fun f cdv A outer s H vs Q E hr h => ?_)
  · obtain ⟨l, a, as, ks, h, rfl, _⟩ := h
    rfl
  · obtain ⟨l, a, as, ks, h, rfl, hl, hks, hS, hh, hz, hok, k⟩ := h
    have hlen := hks.len
    unfold M.meansIn at k
    refine ⟨_, (pss_cons (ps_if ((pw_or (pt_cmpR op_eq (pe_callB call_len_seq (by rfl) T.len PySem.boot_len (pa_cons (pv 1) pa_nil)) pe_int (nomark _)) (pw_or1 (pt_cmpR op_gt (pe_callB call_len_seq (by rfl) T.len PySem.boot_len (pa_cons (pv 1) pa_nil)) (pe_gi T.c_MOST_FLAGS) (nomark _))))).pt (pss_one (ps_ret (pe_lst (pa_cons (pe_gi T.c_BAD_LENGTH) pa_nil)))) pss_nil) (pss_cons (ps_set (i := 2) nd rfl (Or.inl rfl) (pe_cd D_unknown_place hr (by first | decide | omega) (by rfl) (pa_cons (pv 0) (pa_cons (pv 1) pa_nil)))) (pss_cons (ps_if (pt_cmpR op_ge (pv 2) pe_int (nomark _)) (pss_one (ps_ret (pe_lst (pa_cons (pe_gi T.c_NO_SUCH_NUMBER) (pa_cons (pv 2) pa_nil))))) pss_nil) (pss_cons (ps_set (i := 3) nd rfl (Or.inl rfl) (pe_cd D_meant_row hr (by first | decide | omega) (by rfl) (pa_cons (pv 0) (pa_cons (pv 1) pa_nil)))) (pss_cons (ps_if (pt_cmpR op_lt (pe_callB call_len_seq (by rfl) T.len PySem.boot_len (pa_cons (pv 3) pa_nil)) (pe_callB call_len_seq (by rfl) T.len PySem.boot_len (pa_cons (pv 1) pa_nil)) (nomark _)) (pss_one (ps_ret (pe_lst (pa_cons (pe_gi T.c_MEANS_NOTHING) (pa_cons (pe_callB call_len_seq (by rfl) T.len PySem.boot_len (pa_cons (pv 3) pa_nil)) pa_nil))))) pss_nil) (pss_cons (ps_set (i := 4) nd rfl (Or.inl rfl) (pe_cd D_lacking_place hr (by first | decide | omega) (by rfl) (pa_cons (pv 0) (pa_cons (pv 1) pa_nil)))) (pss_cons (ps_if (pt_cmpR op_ge (pv 4) pe_int (nomark _)) (pss_one (ps_ret (pe_lst (pa_cons (pe_gi T.c_TOO_FEW_COPIES) (pa_cons (pv 4) pa_nil))))) pss_nil) (pss_one (ps_ret (pe_op op_cat (pe_lst (pa_cons (pe_callB call_len_seq (by rfl) T.len PySem.boot_len (pa_cons (pv 3) pa_nil)) pa_nil)) (pv 3))))))))))), ?_⟩
    refine seqI fun NX hNX => ?_
    have bad : ∀ H' : Hp, Same H H' → (h.length = 0 ∨ 8 < h.length) → ∀ p, H' p = none → Q (.ref p) (upd H' p (.lst [.int (-1)])) := fun H' s' hb p hp => by
      rw [if_pos hb] at k
      exact k _ p (Same.upd_new s' hp) upd_same
    have rest : ¬ (h.length = 0 ∨ 8 < h.length) → NX [some (.ref l), some (.ref a), none, none, none] H := by
      intro hb
      refine hNX _ _ ?_
      rw [if_neg hb] at k
      refine ⟨_, rfl, _, rfl, l, a, as, ks, h, rfl, hl, hks, hS, hh, hz, fun H1 s1 => ?_⟩
      cases hu : unkAt ks h with
      | some i =>
        have hu : M.unknownAt ks.length h = some i := hu
        rw [hu] at k
        refine ⟨_, rfl, _, _, rfl, rfl, _, rfl, itB (decide_eq_true (by show (0 : Int) ≤ (i : Int); omega)) ?_⟩
        refine ⟨_, rfl, ?_, fun p hp => ?_⟩
        · show 2 ≤ sizeLine
          decide
        · exact k _ p (Same.upd_new s1 hp) upd_same
      | none =>
        have hu : M.unknownAt ks.length h = none := hu
        rw [hu] at k
        have k : ∀ (H' : Hp) (p : Addr), Same H H' → LI H' p (if (M.meantFrom ks [] h).length < h.length then [-9, ((M.meantFrom ks [] h).length : Int)]
          else match M.lackingAt ks h with
            | some i => [-3, (i : Int)]
            | none => ((M.meantFrom ks [] h).length : Int) :: M.meantFrom ks [] h) → Q (.ref p) H' := k
        have hv : ∀ z ∈ h, 0 ≤ z ∧ z < (ks.length : Int) := fun z hm => by
          unfold M.unknownAt at hu
          rw [List.findIdx?_eq_none_iff] at hu
          have := hu z hm
          rw [decide_eq_false_iff_not] at this
          exact ⟨(hz z hm).1, by omega⟩
        refine ⟨_, rfl, _, _, rfl, rfl, _, rfl, itN (decide_eq_false (by show ¬ (0 : Int) ≤ -1; decide)) ?_⟩
        refine ⟨_, rfl, _, rfl, l, a, as, ks, h, rfl, s1 _ _ hl, kinds_same hks s1, s1.seq hS, hh, hv, hok, fun H2 pr s2 n2 e2 => ?_⟩
        have s12 := s1.trans s2
        refine ⟨_, rfl, pr, _, rfl, .inl e2.sq, _, rfl, a, _, rfl, .inl (s12.seq hS), _, _, rfl, rfl, _, rfl, ?_⟩
        rw [ints_len, ints_len]
        by_cases h1 : (M.meantFrom ks [] h).length < h.length
        · refine itB (decide_eq_true (by omega)) ?_
          rw [if_pos h1] at k
          refine ⟨_, rfl, pr, _, rfl, .inl e2.sq, ?_, fun p hp => ?_⟩
          · show 2 ≤ sizeLine
            decide
          · refine k _ p (Same.upd_new s12 hp) ?_
            show (upd H2 p _) p = _
            rw [upd_same, ints_len]
            rfl
        · refine itN (decide_eq_false (by omega)) ?_
          rw [if_neg h1] at k
          refine ⟨_, rfl, _, rfl, l, a, as, ks, h, rfl, s12 _ _ hl, kinds_same hks s12, s12.seq hS, hh, hv, fun H3 s3 => ?_⟩
          have s13 := s12.trans s3
          cases hk : M.lackingAt ks h with
          | some i =>
            rw [hk] at k
            refine ⟨_, rfl, _, _, rfl, rfl, _, rfl, itB (decide_eq_true (by show (0 : Int) ≤ (i : Int); omega)) ?_⟩
            refine ⟨_, rfl, ?_, fun p hp => ?_⟩
            · show 2 ≤ sizeLine
              decide
            · exact k _ p (Same.upd_new s13 hp) upd_same
          | none =>
            rw [hk] at k
            refine ⟨_, rfl, _, _, rfl, rfl, _, rfl, itN (decide_eq_false (by show ¬ (0 : Int) ≤ -1; decide)) ?_⟩
            have e3 := LI.same e2 s3
            refine ⟨_, rfl, pr, _, rfl, .inl e3.sq, ?_, fun p hp => ?_⟩
            · show 1 ≤ sizeLine
              decide
            · have s4 : Same H3 (upd H3 p (.lst [.int ((zs (M.meantFrom ks [] h)).length : Nat)])) := Same.upd_new (Same.refl _) hp
              refine ⟨_, rfl, p, pr, _, _, rfl, rfl, upd_same, s4 _ _ e3, ?_, fun q hq => ?_⟩
              · have hml : (M.meantFrom ks [] h).length ≤ 20 := by
                  have := meant_len ks h []
                  simp at this
                  omega
                show 1 + (zs (M.meantFrom ks [] h)).length ≤ sizeLine
                rw [ints_len]
                exact line70' (by omega)
              · refine k _ q (Same.upd_new (s13.trans s4) hq) ?_
                show (upd _ q _) q = _
                rw [upd_same, ints_len]
                rfl
    refine ⟨_, rfl, a, _, rfl, .inl hS, rfl, _, rfl, ?_⟩
    rw [ints_len, eqI]
    by_cases h0 : h.length = 0
    · refine itB (decide_eq_true (by omega)) (iteT ?_)
      exact ⟨by show 1 ≤ sizeLine; decide, bad H (Same.refl _) (.inl h0)⟩
    · refine itN (decide_eq_false (by omega)) ?_
      refine ⟨_, rfl, a, _, rfl, .inl hS, _, _, rfl, rfl, _, rfl, ?_⟩
      rw [ints_len]
      by_cases h8 : 8 < h.length
      · refine itB (decide_eq_true (by omega)) ?_
        exact ⟨by show 1 ≤ sizeLine; decide, bad H (Same.refl _) (.inr h8)⟩
      · refine itN (decide_eq_false (by omega)) ?_
        exact rest (by omega)
theorem d_means {f : Addr} {fd : FuncData} (F : Fun K "means" "means" s_means f fd) (T : Txt K mg C aS) (D_read_locker : Dn P w K mg base 7 "read_locker" ["t"] (spReadT K C)) (D_text_refusal : Dn P w K mg base 2 "text_refusal" ["t"] (spRefuse K)) (D_means_in : Dn P w K mg base 2 "means_in" ["kinds", "h"] (spMeansIn K C)) :
    FnOk P w K mg base CX0 8 f fd ["t", "h"] (spMeans K) := by
  have nd := sc_means.nd
  refine F.ok sc_means (fun vs H Q E h => ?_) (fun cdv A outer s H vs Q E hr h => ?_)
  · obtain ⟨a, b, t, h, rfl, _⟩ := h
    rfl
  · obtain ⟨a, b, t, h, rfl, hT, hS, hh, hz, k⟩ := h
    unfold M.means at k
    refine ⟨_, (pss_cons (ps_set (i := 2) nd rfl (Or.inl rfl) (pe_cd D_read_locker hr (by first | decide | omega) (by rfl) (pa_cons (pv 0) pa_nil))) (pss_cons (ps_if (pt_cmp (pc_isN (pv 2))) (pss_one (ps_ret (pe_cd D_text_refusal hr (by first | decide | omega) (by rfl) (pa_cons (pv 0) pa_nil)))) pss_nil) (pss_one (ps_ret (pe_cd D_means_in hr (by first | decide | omega) (by rfl) (pa_cons (pv 2) (pa_cons (pv 1) pa_nil))))))), ?_⟩
    refine ⟨_, rfl, a, t, rfl, hT, fun H1 v s1 o1 => ?_⟩
    refine ⟨_, rfl, _, rfl, ?_⟩
    unfold Sh.readT at o1
    have no : (if 65536 < t.length then none else M.readLocker t) = none → (M.means t h = if 65536 < t.length then [-2] else [-6]) := fun e => by
      unfold M.means
      by_cases h1 : 65536 < t.length
      · rw [if_pos h1, if_pos h1]
      · rw [if_neg h1] at e
        rw [if_neg h1, if_neg h1, e]
    have k : ∀ (H' : Hp) (p : Addr), Same H H' → LI H' p (M.means t h) → Q (.ref p) H' := k
    cases hr : (if 65536 < t.length then none else M.readLocker t) with
    | none =>
      rw [hr] at o1
      have o1 : v = .non := o1
      subst o1
      refine itB (decide_eq_true rfl) ?_
      refine ⟨_, rfl, a, t, rfl, s1.seq hT, fun H2 q s2 e2 => k H2 q (s1.trans s2) ?_⟩
      rw [no hr]
      exact e2
    | some ks =>
      rw [hr] at o1
      obtain ⟨p, as, rfl, e1, hk⟩ := o1
      refine itN (decide_eq_false (fun q => nomatch q)) ?_
      by_cases h1 : 65536 < t.length
      · rw [if_pos h1] at hr
        cases hr
      · rw [if_neg h1] at hr
        unfold M.means at k
        rw [if_neg h1, hr] at k
        exact ⟨_, rfl, _, rfl, p, b, as, ks, h, rfl, e1, hk, s1.seq hS, hh, hz, kok_of hr, fun H2 q s2 e2 => k H2 q (s1.trans s2) e2⟩
end
end Fl
set_option Elab.async false
set_option linter.all false
set_option maxRecDepth 100000
namespace Fl
open PySem PySem.Spec PyProof.Rows L2
open PySem.W (Codec)
theorem tx_mk {K : PySem.W.Frag} {h : Heap} {mg : Str → Option Value} {x : Str} {ps : List Str} {st : Stmt} {f : Addr} {oc : Value} {od an : Option Addr} {osl : Array (Option Value)} {kV doc pm cdv ct : Value} (X : K.In h) (G : h.Ns mainGlobals mg)
    (a : PySem.W.nsIn K mainGlobals x = some (some (.ref f))) (l : K.lookup f = some ⟨oc, od, .func (PySem.W.fnOf x x (defArgs st) (defBody st) (defScope st) .none kV doc pm an cdv ct), osl⟩) (c : PySem.W.codeIn K cdv x = true) (k : PySem.W.keepIn K (.ref f) = true)
    (hb : ∀ (kV doc pm : Value) (an : Option Addr) (cdv ct : Value) (us : List Value), us.length = ps.length → bindArgs (PySem.W.fnOf x x (defArgs st) (defBody st) (defScope st) .none kV doc pm an cdv ct) ⟨us, []⟩ = pure (ps.zip us)) : Tx K mg x ps st := by
  have F := fun_mk (st := st) l c k
  exact ⟨_, _, F, PySem.W.mg_of X G a, F.binds hb⟩
theorem ci_mk {K : PySem.W.Frag} {h : Heap} {mg : Str → Option Value} {x : Str} {i : Int} {t : Tok} (X : K.In h) (G : h.Ns mainGlobals mg) (a : PySem.W.nsIn K mainGlobals x = some (some (.int i t))) : ∃ t, mg x = some (.int i t) := ⟨t, PySem.W.mg_of X G a⟩
theorem cs_mk {K : PySem.W.Frag} {h : Heap} {mg : Str → Option Value} {x y : Str} {t : Tok} (X : K.In h) (G : h.Ns mainGlobals mg) (a : PySem.W.nsIn K mainGlobals x = some (some (.str y t))) : ∃ t, mg x = some (.str y t) := ⟨t, PySem.W.mg_of X G a⟩
theorem shp_mk {K : PySem.W.Frag} {a : Addr} {od : Option Addr} {n : Nat} {osl : Array (Option Value)} {t1 t2 t3 : Tok} (l : K.lookup a = some ⟨.type "tuple", od, .seq #[.str "square" t1, .str "tails" t2, .str "long" t3] n, osl⟩) : ∀ H : Hp, SqT K H a [.str "square", .str "tails", .str "long"] :=
  fun H => .inr ⟨_, _, n, l, rfl, rfl, (by show 3 ≤ sizeLine; decide), .cons ⟨_, rfl⟩ (.cons ⟨_, rfl⟩ (.cons ⟨_, rfl⟩ .nil))⟩
structure Cl (K : PySem.W.Frag) (mg : Str → Option Value) (C : Addr) : Prop where
  cl : Cls K C
  n_role : NoAttr K C "role"
  n_name : NoAttr K C "name"
  n_back : NoAttr K C "back"
  n_copies : NoAttr K C "copies"
  n_design : NoAttr K C "design"
  mgC : mg "Kind" = some (.ref C)
  ini : ∃ (f : Addr) (fd : FuncData), Fun K "__init__" "Kind.__init__" s_Kind_init f fd ∧ Mk K C f ∧ Binds K fd ["self", "role", "name", "back", "copies", "design"] []
theorem cl_mk {K : PySem.W.Frag} {h : Heap} {mg : Str → Option Value} {C f : Addr} {oc : Value} {od an : Option Addr} {osl : Array (Option Value)} {kV doc pm cdv ct : Value} (X : K.In h) (G : h.Ns mainGlobals mg)
    (aC : PySem.W.nsIn K mainGlobals "Kind" = some (some (.ref C)))
    (a1 : PySem.W.findIn K (.ref C) "__init__" = some (some (.ref f))) (i1 : PySem.W.isFn K (.ref f) = true) (l1 : K.lookup f = some ⟨oc, od, .func (PySem.W.fnOf "__init__" "Kind.__init__" (defArgs s_Kind_init) (defBody s_Kind_init) (defScope s_Kind_init) .none kV doc pm an cdv ct), osl⟩)
    (c1 : PySem.W.codeIn K cdv "Kind.__init__" = true) (k1 : PySem.W.keepIn K (.ref f) = true)
    (pg : PySem.W.plainGet K C Str.empty = true) (hd : PySem.W.hasDictIn K C = true) (po : PySem.W.plainOver K C = true) (sa : PySem.W.findIn K (.ref C) "__setattr__" = some (some (.builtin "object.__setattr__"))) (mk : PySem.W.makesIn K C = true) (kc : PySem.W.keepIn K (.ref C) = true)
    (n1 : PySem.W.findIn K (.ref C) "role" = some none) (n2 : PySem.W.findIn K (.ref C) "name" = some none) (n3 : PySem.W.findIn K (.ref C) "back" = some none) (n4 : PySem.W.findIn K (.ref C) "copies" = some none) (n5 : PySem.W.findIn K (.ref C) "design" = some none) : ∃ C, Cl K mg C := by
  have F := fun_mk (st := s_Kind_init) l1 c1 k1
  exact ⟨C, ⟨pg, hd, po, sa⟩, n1, n2, n3, n4, n5, PySem.W.mg_of X G aC, _, _, F, ⟨mk, a1, i1, kc⟩, F.binds fun _ _ _ _ _ _ us hl => match us, hl with | [_, _, _, _, _, _], _ => rfl⟩
theorem txt_mk {K : PySem.W.Frag} {h : Heap} {mg : Str → Option Value} {C aS : Addr} {t_MOST_BYTES t_MOST_SIGNS t_MOST_COPIES t_MOST_BACK t_MOST_NAME t_LOOK_CELLS t_LINE_END t_BLANK t_SIGN t_SAME t_ANSWER t_TEXT_TOO_LONG t_NO_LOCKER t_BAD_LENGTH t_NO_SUCH_NUMBER t_MEANS_NOTHING t_TOO_FEW_COPIES t_MOST_FLAGS t_NAME_LETTERS t_LOOK_LETTERS tS1 tS2 tS3 : Tok} {odS : Option Addr} {nS : Nat} {slS : Array (Option Value)} (X : K.In h) (G : h.Ns mainGlobals mg) (L : Cl K mg C)
    (z_len : PySem.W.nsIn K mainGlobals "len" = some none)
    (z_ord : PySem.W.nsIn K mainGlobals "ord" = some none)
    (z_enumerate : PySem.W.nsIn K mainGlobals "enumerate" = some none)
    (z_range : PySem.W.nsIn K mainGlobals "range" = some none)
    (z_sum : PySem.W.nsIn K mainGlobals "sum" = some none)
    (z_max : PySem.W.nsIn K mainGlobals "max" = some none)
    (z_min : PySem.W.nsIn K mainGlobals "min" = some none)
    (z_list : PySem.W.nsIn K mainGlobals "list" = some none)
    (i_MOST_BYTES : PySem.W.nsIn K mainGlobals "MOST_BYTES" = some (some (.int (65536) t_MOST_BYTES)))
    (i_MOST_SIGNS : PySem.W.nsIn K mainGlobals "MOST_SIGNS" = some (some (.int (48) t_MOST_SIGNS)))
    (i_MOST_COPIES : PySem.W.nsIn K mainGlobals "MOST_COPIES" = some (some (.int (8) t_MOST_COPIES)))
    (i_MOST_BACK : PySem.W.nsIn K mainGlobals "MOST_BACK" = some (some (.int (4) t_MOST_BACK)))
    (i_MOST_NAME : PySem.W.nsIn K mainGlobals "MOST_NAME" = some (some (.int (8) t_MOST_NAME)))
    (i_LOOK_CELLS : PySem.W.nsIn K mainGlobals "LOOK_CELLS" = some (some (.int (16) t_LOOK_CELLS)))
    (i_LINE_END : PySem.W.nsIn K mainGlobals "LINE_END" = some (some (.int (10) t_LINE_END)))
    (i_BLANK : PySem.W.nsIn K mainGlobals "BLANK" = some (some (.int (32) t_BLANK)))
    (i_SIGN : PySem.W.nsIn K mainGlobals "SIGN" = some (some (.int (0) t_SIGN)))
    (i_SAME : PySem.W.nsIn K mainGlobals "SAME" = some (some (.int (1) t_SAME)))
    (i_ANSWER : PySem.W.nsIn K mainGlobals "ANSWER" = some (some (.int (2) t_ANSWER)))
    (i_TEXT_TOO_LONG : PySem.W.nsIn K mainGlobals "TEXT_TOO_LONG" = some (some (.int (-2) t_TEXT_TOO_LONG)))
    (i_NO_LOCKER : PySem.W.nsIn K mainGlobals "NO_LOCKER" = some (some (.int (-6) t_NO_LOCKER)))
    (i_BAD_LENGTH : PySem.W.nsIn K mainGlobals "BAD_LENGTH" = some (some (.int (-1) t_BAD_LENGTH)))
    (i_NO_SUCH_NUMBER : PySem.W.nsIn K mainGlobals "NO_SUCH_NUMBER" = some (some (.int (-4) t_NO_SUCH_NUMBER)))
    (i_MEANS_NOTHING : PySem.W.nsIn K mainGlobals "MEANS_NOTHING" = some (some (.int (-9) t_MEANS_NOTHING)))
    (i_TOO_FEW_COPIES : PySem.W.nsIn K mainGlobals "TOO_FEW_COPIES" = some (some (.int (-3) t_TOO_FEW_COPIES)))
    (i_MOST_FLAGS : PySem.W.nsIn K mainGlobals "MOST_FLAGS" = some (some (.int (8) t_MOST_FLAGS)))
    (i_NAME_LETTERS : PySem.W.nsIn K mainGlobals "NAME_LETTERS" = some (some (.str "ABCDEFGHIJKLMNOPQRSTUVWXYZ0123456789" t_NAME_LETTERS)))
    (i_LOOK_LETTERS : PySem.W.nsIn K mainGlobals "LOOK_LETTERS" = some (some (.str "0123456789abcdef" t_LOOK_LETTERS)))
    (i_SHAPES : PySem.W.nsIn K mainGlobals "SHAPES" = some (some (.ref aS)))
    (l_SHAPES : K.lookup aS = some ⟨.type "tuple", odS, .seq #[.str "square" tS1, .str "tails" tS2, .str "long" tS3] nS, slS⟩) : ∃ aS, Txt K mg C aS :=
  ⟨aS, PySem.W.mg_none_of X G z_len, PySem.W.mg_none_of X G z_ord, PySem.W.mg_none_of X G z_enumerate, PySem.W.mg_none_of X G z_range, PySem.W.mg_none_of X G z_sum, PySem.W.mg_none_of X G z_max, PySem.W.mg_none_of X G z_min, PySem.W.mg_none_of X G z_list, ci_mk X G i_MOST_BYTES, ci_mk X G i_MOST_SIGNS, ci_mk X G i_MOST_COPIES, ci_mk X G i_MOST_BACK, ci_mk X G i_MOST_NAME, ci_mk X G i_LOOK_CELLS, ci_mk X G i_LINE_END, ci_mk X G i_BLANK, ci_mk X G i_SIGN, ci_mk X G i_SAME, ci_mk X G i_ANSWER, ci_mk X G i_TEXT_TOO_LONG, ci_mk X G i_NO_LOCKER, ci_mk X G i_BAD_LENGTH, ci_mk X G i_NO_SUCH_NUMBER, ci_mk X G i_MEANS_NOTHING, ci_mk X G i_TOO_FEW_COPIES, ci_mk X G i_MOST_FLAGS, cs_mk X G i_NAME_LETTERS, cs_mk X G i_LOOK_LETTERS, PySem.W.mg_of X G i_SHAPES, shp_mk l_SHAPES, L.cl, L.n_role, L.n_name, L.n_back, L.n_copies, L.n_design⟩
theorem all_mk {P : Program} {w : World} {K : PySem.W.Frag} {h : Heap} {mg : Str → Option Value} {C aS fa f3 : Addr} {oc3 : Value} {od3 an3 : Option Addr} {sl3 : Array (Option Value)} {kV3 doc3 pm3 cd3 ct3 : Value} (X : K.In h) (G : h.Ns mainGlobals mg) (L : Cl K mg C) (T : Txt K mg C aS) (hfa : mg "means" = some (.ref fa))
    (a3 : PySem.W.nsIn K mainGlobals "means" = some (some (.ref f3))) (l3 : K.lookup f3 = some ⟨oc3, od3, .func (PySem.W.fnOf "means" "means" (defArgs s_means) (defBody s_means) (defScope s_means) .none kV3 doc3 pm3 an3 cd3 ct3), sl3⟩) (c3 : PySem.W.codeIn K cd3 "means" = true) (k3 : PySem.W.keepIn K (.ref f3) = true)
    (X_codes : Tx K mg "codes" ["letters"] s_codes) (X_split_at : Tx K mg "split_at" ["row", "mark"] s_split_at) (X_made_of : Tx K mg "made_of" ["word", "letters"] s_made_of) (X_is_name : Tx K mg "is_name" ["word"] s_is_name) (X_is_look : Tx K mg "is_look" ["word"] s_is_look) (X_is_shape : Tx K mg "is_shape" ["word"] s_is_shape) (X_digit_of : Tx K mg "digit_of" ["word", "most"] s_digit_of) (X_is_locker_line : Tx K mg "is_locker_line" ["words"] s_is_locker_line) (X_made_kind : Tx K mg "made_kind" ["role", "name", "back", "rest"] s_made_kind) (X_read_kind : Tx K mg "read_kind" ["words"] s_read_kind) (X_in_order : Tx K mg "in_order" ["kinds", "kind"] s_in_order) (X_is_new : Tx K mg "is_new" ["kinds", "kind"] s_is_new) (X_fits : Tx K mg "fits" ["kinds", "kind"] s_fits) (X_read_kinds : Tx K mg "read_kinds" ["lines"] s_read_kinds) (X_is_too_long : Tx K mg "is_too_long" ["t"] s_is_too_long) (X_read_locker : Tx K mg "read_locker" ["t"] s_read_locker) (X_text_refusal : Tx K mg "text_refusal" ["t"] s_text_refusal) (X_unknown_place : Tx K mg "unknown_place" ["kinds", "h"] s_unknown_place) (X_meant_row : Tx K mg "meant_row" ["kinds", "h"] s_meant_row) (X_lacking_place : Tx K mg "lacking_place" ["kinds", "h"] s_lacking_place) (X_means_in : Tx K mg "means_in" ["kinds", "h"] s_means_in) :
    ∃ fd : FuncData, (∀ (s : Shared) (us : List Value), us.length = (["t", "h"] : List Str).length → BindsTo s fd ⟨us, []⟩ ((["t", "h"] : List Str).zip us)) ∧ ∀ base : Heap, K.In base → base.Ns mainGlobals mg → FnOk P w K mg base CX0 8 fa fd ["t", "h"] (spMeans K) := by
  have e := hfa.symm.trans (PySem.W.mg_of X G a3)
  cases e
  have F3 := fun_mk (st := s_means) l3 c3 k3
  refine ⟨PySem.W.fnOf "means" "means" (defArgs s_means) (defBody s_means) (defScope s_means) .none kV3 doc3 pm3 an3 cd3 ct3, fun s us hu => match us, hu with | [_, _], _ => .of_eq rfl, fun base _ _ => ?_⟩
  have C_Kind : Cn P w K mg base 1 "Kind" C ["self", "role", "name", "back", "copies", "design"] (spInit C) := by
    obtain ⟨f, fd, F, M, b⟩ := L.ini
    exact ⟨f, fd, d_init F T, L.mgC, M, b⟩
  have D_codes : Dn P w K mg base 1 "codes" ["letters"] spCodes := d_codes X_codes T
  have D_split : Dn P w K mg base 1 "split_at" ["row", "mark"] (spSplit K) := d_split X_split_at
  have D_made_of := d_made_of X_made_of D_codes
  have D_is_name := d_is_name X_is_name T D_made_of
  have D_is_look := d_is_look X_is_look T D_made_of
  have D_is_shape := d_is_shape X_is_shape T D_codes
  have D_digit : Dn P w K mg base 1 "digit_of" ["word", "most"] (spDigit K) := d_digit X_digit_of T
  have D_locker := d_locker_line X_is_locker_line T D_codes D_is_name
  have D_made_kind := d_made_kind X_made_kind T D_digit D_is_shape D_is_look C_Kind
  have D_read_kind := d_read_kind X_read_kind T D_codes D_digit D_is_name D_made_kind
  have D_in_order : Dn P w K mg base 1 "in_order" ["kinds", "kind"] (spKinds C M.inOrder) := d_in_order X_in_order T
  have D_is_new : Dn P w K mg base 1 "is_new" ["kinds", "kind"] (spKinds C M.isNew) := d_is_new X_is_new T
  have D_fits := d_fits X_fits T D_in_order D_is_new
  have D_read_kinds := d_read_kinds X_read_kinds T D_split D_read_kind D_fits
  have D_read_locker := d_read_locker X_read_locker T D_split D_locker D_read_kinds (d_too_long X_is_too_long T)
  have D_refuse : Dn P w K mg base 2 "text_refusal" ["t"] (spRefuse K) := d_refuse X_text_refusal T (d_too_long X_is_too_long T)
  have D_means_in : Dn P w K mg base 2 "means_in" ["kinds", "h"] (spMeansIn K C) := d_means_in X_means_in T (d_unknown X_unknown_place T) (d_meant X_meant_row T) (d_lacking X_lacking_place T)
  exact d_means F3 T D_read_locker D_refuse D_means_in
end Fl
open PySem PySem.W PyProof.Rows
set_option maxRecDepth 100000 in
set_option maxHeartbeats 0 in
theorem PySem.Challenge.cw_flaghoistsdesk_s01_means_holds : PySem.Challenge.rw_flaghoistsdesk_s01_means.Holds := by
  w_on; k_headS; (case hw => exact ⟨[.list [], .list []], by decide +kernel, by decide +kernel⟩)
  k_fillS
  refine L2.walk_specK (r := PySem.Challenge.rw_flaghoistsdesk_s01_means) (k := 8) (CX := L2.CX0) (ps := ["t", "h"]) (sp := Fl.spMeans) (by decide +kernel) rfl rfl ⟨rfl, by decide, by decide⟩ (fun w h Y => PySem.W.kIn_of Y) ?F ?S (fun _ _ _ _ z => z)
  case F =>
    intro w mg fa h Y KX G hmg
    have X_codes : Fl.Tx (L2.KOf KX) mg "codes" ["letters"] Fl.s_codes := by
      dsimp only [L2.KOf]
      refine' Fl.tx_mk KX G ?a ?l ?c ?k ?b
      (case a => k_is); (case l => k_is); (case c => k_is); (case k => k_is)
      (case b => exact fun _ _ _ _ _ _ us hl => match us, hl with | [_], _ => rfl)
    have X_split_at : Fl.Tx (L2.KOf KX) mg "split_at" ["row", "mark"] Fl.s_split_at := by
      dsimp only [L2.KOf]
      refine' Fl.tx_mk KX G ?a ?l ?c ?k ?b
      (case a => k_is); (case l => k_is); (case c => k_is); (case k => k_is)
      (case b => exact fun _ _ _ _ _ _ us hl => match us, hl with | [_, _], _ => rfl)
    have X_made_of : Fl.Tx (L2.KOf KX) mg "made_of" ["word", "letters"] Fl.s_made_of := by
      dsimp only [L2.KOf]
      refine' Fl.tx_mk KX G ?a ?l ?c ?k ?b
      (case a => k_is); (case l => k_is); (case c => k_is); (case k => k_is)
      (case b => exact fun _ _ _ _ _ _ us hl => match us, hl with | [_, _], _ => rfl)
    have X_is_name : Fl.Tx (L2.KOf KX) mg "is_name" ["word"] Fl.s_is_name := by
      dsimp only [L2.KOf]
      refine' Fl.tx_mk KX G ?a ?l ?c ?k ?b
      (case a => k_is); (case l => k_is); (case c => k_is); (case k => k_is)
      (case b => exact fun _ _ _ _ _ _ us hl => match us, hl with | [_], _ => rfl)
    have X_is_look : Fl.Tx (L2.KOf KX) mg "is_look" ["word"] Fl.s_is_look := by
      dsimp only [L2.KOf]
      refine' Fl.tx_mk KX G ?a ?l ?c ?k ?b
      (case a => k_is); (case l => k_is); (case c => k_is); (case k => k_is)
      (case b => exact fun _ _ _ _ _ _ us hl => match us, hl with | [_], _ => rfl)
    have X_is_shape : Fl.Tx (L2.KOf KX) mg "is_shape" ["word"] Fl.s_is_shape := by
      dsimp only [L2.KOf]
      refine' Fl.tx_mk KX G ?a ?l ?c ?k ?b
      (case a => k_is); (case l => k_is); (case c => k_is); (case k => k_is)
      (case b => exact fun _ _ _ _ _ _ us hl => match us, hl with | [_], _ => rfl)
    have X_digit_of : Fl.Tx (L2.KOf KX) mg "digit_of" ["word", "most"] Fl.s_digit_of := by
      dsimp only [L2.KOf]
      refine' Fl.tx_mk KX G ?a ?l ?c ?k ?b
      (case a => k_is); (case l => k_is); (case c => k_is); (case k => k_is)
      (case b => exact fun _ _ _ _ _ _ us hl => match us, hl with | [_, _], _ => rfl)
    have X_is_locker_line : Fl.Tx (L2.KOf KX) mg "is_locker_line" ["words"] Fl.s_is_locker_line := by
      dsimp only [L2.KOf]
      refine' Fl.tx_mk KX G ?a ?l ?c ?k ?b
      (case a => k_is); (case l => k_is); (case c => k_is); (case k => k_is)
      (case b => exact fun _ _ _ _ _ _ us hl => match us, hl with | [_], _ => rfl)
    have X_made_kind : Fl.Tx (L2.KOf KX) mg "made_kind" ["role", "name", "back", "rest"] Fl.s_made_kind := by
      dsimp only [L2.KOf]
      refine' Fl.tx_mk KX G ?a ?l ?c ?k ?b
      (case a => k_is); (case l => k_is); (case c => k_is); (case k => k_is)
      (case b => exact fun _ _ _ _ _ _ us hl => match us, hl with | [_, _, _, _], _ => rfl)
    have X_read_kind : Fl.Tx (L2.KOf KX) mg "read_kind" ["words"] Fl.s_read_kind := by
      dsimp only [L2.KOf]
      refine' Fl.tx_mk KX G ?a ?l ?c ?k ?b
      (case a => k_is); (case l => k_is); (case c => k_is); (case k => k_is)
      (case b => exact fun _ _ _ _ _ _ us hl => match us, hl with | [_], _ => rfl)
    have X_in_order : Fl.Tx (L2.KOf KX) mg "in_order" ["kinds", "kind"] Fl.s_in_order := by
      dsimp only [L2.KOf]
      refine' Fl.tx_mk KX G ?a ?l ?c ?k ?b
      (case a => k_is); (case l => k_is); (case c => k_is); (case k => k_is)
      (case b => exact fun _ _ _ _ _ _ us hl => match us, hl with | [_, _], _ => rfl)
    have X_is_new : Fl.Tx (L2.KOf KX) mg "is_new" ["kinds", "kind"] Fl.s_is_new := by
      dsimp only [L2.KOf]
      refine' Fl.tx_mk KX G ?a ?l ?c ?k ?b
      (case a => k_is); (case l => k_is); (case c => k_is); (case k => k_is)
      (case b => exact fun _ _ _ _ _ _ us hl => match us, hl with | [_, _], _ => rfl)
    have X_fits : Fl.Tx (L2.KOf KX) mg "fits" ["kinds", "kind"] Fl.s_fits := by
      dsimp only [L2.KOf]
      refine' Fl.tx_mk KX G ?a ?l ?c ?k ?b
      (case a => k_is); (case l => k_is); (case c => k_is); (case k => k_is)
      (case b => exact fun _ _ _ _ _ _ us hl => match us, hl with | [_, _], _ => rfl)
    have X_read_kinds : Fl.Tx (L2.KOf KX) mg "read_kinds" ["lines"] Fl.s_read_kinds := by
      dsimp only [L2.KOf]
      refine' Fl.tx_mk KX G ?a ?l ?c ?k ?b
      (case a => k_is); (case l => k_is); (case c => k_is); (case k => k_is)
      (case b => exact fun _ _ _ _ _ _ us hl => match us, hl with | [_], _ => rfl)
    have X_is_too_long : Fl.Tx (L2.KOf KX) mg "is_too_long" ["t"] Fl.s_is_too_long := by
      dsimp only [L2.KOf]
      refine' Fl.tx_mk KX G ?a ?l ?c ?k ?b
      (case a => k_is); (case l => k_is); (case c => k_is); (case k => k_is)
      (case b => exact fun _ _ _ _ _ _ us hl => match us, hl with | [_], _ => rfl)
    have X_read_locker : Fl.Tx (L2.KOf KX) mg "read_locker" ["t"] Fl.s_read_locker := by
      dsimp only [L2.KOf]
      refine' Fl.tx_mk KX G ?a ?l ?c ?k ?b
      (case a => k_is); (case l => k_is); (case c => k_is); (case k => k_is)
      (case b => exact fun _ _ _ _ _ _ us hl => match us, hl with | [_], _ => rfl)
    have X_text_refusal : Fl.Tx (L2.KOf KX) mg "text_refusal" ["t"] Fl.s_text_refusal := by
      dsimp only [L2.KOf]
      refine' Fl.tx_mk KX G ?a ?l ?c ?k ?b
      (case a => k_is); (case l => k_is); (case c => k_is); (case k => k_is)
      (case b => exact fun _ _ _ _ _ _ us hl => match us, hl with | [_], _ => rfl)
    have X_unknown_place : Fl.Tx (L2.KOf KX) mg "unknown_place" ["kinds", "h"] Fl.s_unknown_place := by
      dsimp only [L2.KOf]
      refine' Fl.tx_mk KX G ?a ?l ?c ?k ?b
      (case a => k_is); (case l => k_is); (case c => k_is); (case k => k_is)
      (case b => exact fun _ _ _ _ _ _ us hl => match us, hl with | [_, _], _ => rfl)
    have X_meant_row : Fl.Tx (L2.KOf KX) mg "meant_row" ["kinds", "h"] Fl.s_meant_row := by
      dsimp only [L2.KOf]
      refine' Fl.tx_mk KX G ?a ?l ?c ?k ?b
      (case a => k_is); (case l => k_is); (case c => k_is); (case k => k_is)
      (case b => exact fun _ _ _ _ _ _ us hl => match us, hl with | [_, _], _ => rfl)
    have X_lacking_place : Fl.Tx (L2.KOf KX) mg "lacking_place" ["kinds", "h"] Fl.s_lacking_place := by
      dsimp only [L2.KOf]
      refine' Fl.tx_mk KX G ?a ?l ?c ?k ?b
      (case a => k_is); (case l => k_is); (case c => k_is); (case k => k_is)
      (case b => exact fun _ _ _ _ _ _ us hl => match us, hl with | [_, _], _ => rfl)
    have X_means_in : Fl.Tx (L2.KOf KX) mg "means_in" ["kinds", "h"] Fl.s_means_in := by
      dsimp only [L2.KOf]
      refine' Fl.tx_mk KX G ?a ?l ?c ?k ?b
      (case a => k_is); (case l => k_is); (case c => k_is); (case k => k_is)
      (case b => exact fun _ _ _ _ _ _ us hl => match us, hl with | [_, _], _ => rfl)
    have L : ∃ C, Fl.Cl (L2.KOf KX) mg C := by
      dsimp only [L2.KOf]
      refine' Fl.cl_mk KX G ?aC ?a1 ?i1 ?l1 ?c1 ?k1 ?pg ?hd ?po ?sa ?mk ?kc ?n1 ?n2 ?n3 ?n4 ?n5
      (case aC => k_is); (case a1 => k_is); (case i1 => k_is); (case l1 => k_is); (case c1 => k_is); (case k1 => k_is)
      (case pg => k_is); (case hd => k_is); (case po => k_is); (case sa => k_is); (case mk => k_is); (case kc => k_is)
      (case n1 => k_is); (case n2 => k_is); (case n3 => k_is); (case n4 => k_is); (case n5 => k_is)
    obtain ⟨C, L⟩ := L
    have T : ∃ aS, Fl.Txt (L2.KOf KX) mg C aS := by
      dsimp only [L2.KOf]
      refine' Fl.txt_mk KX G L ?z_len ?z_ord ?z_enumerate ?z_range ?z_sum ?z_max ?z_min ?z_list ?i_MOST_BYTES ?i_MOST_SIGNS ?i_MOST_COPIES ?i_MOST_BACK ?i_MOST_NAME ?i_LOOK_CELLS ?i_LINE_END ?i_BLANK ?i_SIGN ?i_SAME ?i_ANSWER ?i_TEXT_TOO_LONG ?i_NO_LOCKER ?i_BAD_LENGTH ?i_NO_SUCH_NUMBER ?i_MEANS_NOTHING ?i_TOO_FEW_COPIES ?i_MOST_FLAGS ?i_NAME_LETTERS ?i_LOOK_LETTERS ?i_SHAPES ?l_SHAPES
      (case z_len => k_is)
      (case z_ord => k_is)
      (case z_enumerate => k_is)
      (case z_range => k_is)
      (case z_sum => k_is)
      (case z_max => k_is)
      (case z_min => k_is)
      (case z_list => k_is)
      (case i_MOST_BYTES => k_is)
      (case i_MOST_SIGNS => k_is)
      (case i_MOST_COPIES => k_is)
      (case i_MOST_BACK => k_is)
      (case i_MOST_NAME => k_is)
      (case i_LOOK_CELLS => k_is)
      (case i_LINE_END => k_is)
      (case i_BLANK => k_is)
      (case i_SIGN => k_is)
      (case i_SAME => k_is)
      (case i_ANSWER => k_is)
      (case i_TEXT_TOO_LONG => k_is)
      (case i_NO_LOCKER => k_is)
      (case i_BAD_LENGTH => k_is)
      (case i_NO_SUCH_NUMBER => k_is)
      (case i_MEANS_NOTHING => k_is)
      (case i_TOO_FEW_COPIES => k_is)
      (case i_MOST_FLAGS => k_is)
      (case i_NAME_LETTERS => k_is)
      (case i_LOOK_LETTERS => k_is)
      (case i_SHAPES => k_is)
      (case l_SHAPES => k_is)
    obtain ⟨aS, T⟩ := T
    refine' Fl.all_mk KX G L T hmg ?a3 ?l3 ?c3 ?k3 X_codes X_split_at X_made_of X_is_name X_is_look X_is_shape X_digit_of X_is_locker_line X_made_kind X_read_kind X_in_order X_is_new X_fits X_read_kinds X_is_too_long X_read_locker X_text_refusal X_unknown_place X_meant_row X_lacking_place X_means_in
    (case a3 => k_is); (case l3 => k_is); (case c3 => k_is); (case k3 => k_is)
  case S =>
    intro K H xs a hO hwi hask hx
    cases hx with
    | cons h1 h2 =>
      cases h2 with
      | cons h2 h3 =>
        cases h3
        cases h1 with
        | lst hs1 ha1 =>
          cases h2 with
          | lst hs2 ha2 =>
            have e1 := L2.ints_dw a.1 _ ha1
            subst e1
            have e2 := L2.ints_dw a.2.1 _ ha2
            subst e2
            have q : ((Codec.inLen 0 66000 a.1 && a.1.all (Codec.inInt 0 255)) && ((Codec.inLen 0 20 a.2.1 && a.2.1.all (Codec.inInt 0 255)) && true)) = true := hwi
            rw [Bool.and_eq_true, Bool.and_eq_true, Bool.and_eq_true, Bool.and_eq_true] at q
            obtain ⟨⟨q1, q2⟩, ⟨q3, q4⟩, _⟩ := q
            have b1 : ∀ x ∈ a.1, 0 ≤ x ∧ x ≤ 255 := fun x hx => Codec.inInt_iff.mp (List.all_eq_true.mp q2 x hx)
            have b2 : ∀ x ∈ a.2.1, 0 ≤ x ∧ x ≤ 255 := fun x hx => Codec.inInt_iff.mp (List.all_eq_true.mp q4 x hx)
            refine ⟨_, _, a.1, a.2.1, rfl, hs1, hs2, (Codec.inNat_iff.mp q3).2, fun z hz => ⟨(b2 z hz).1, Int.lt_of_le_of_lt (b2 z hz).2 (by decide)⟩, fun H' p _ hp => ?_⟩
            show L2.Dw K H' (.ref p) (.list ((PyWqbact.means a.1 a.2.1).map WData.int))
            rw [M.means_is b1 fun x hx => (b2 x hx).1]
            exact .lst (L2.SqL.of hp) (L2.dw_ints _)
